/- A part of the proof of TowMeasures. -/
import Derived.Carry
import Derived.OpenShut
import Derived.ProofKit
import Derived.SizedLaws
import Derived.Sort.LoopGhostIn
import Derived.Test.YtkimjjjaifmioaaProg
import Derived.Test.YtkimjjjaifmioaaW1
/- A run of the model follows the evaluator: code, functions. -/
set_option linter.unusedVariables false
set_option linter.unusedSimpArgs false
namespace Go.Ev
open Go.RowKit

section
variable {P : Program} {C : FuncId → Option Con}

theorem wide_wide : Wide Fence.wide := ⟨fun _ => trivial, rfl, rfl⟩

theorem awp_sound (hC : CtxOK P C) {FF : Fence} (hW : Wide FF) (hmix : P.follows .mixedOrders = true) {O : Nat → Prop} {w0 : World} {F0 : FZ} {M0 : MP} {D : List Deferred} {sz pins : Nat} (hp : ∀ b y, M0 b = some y → b < pins) : ∀ (c : Code) (Q : AX → TM → ST → Nat → Prop) (QQ : Exit → Act → World → Prop) (F : FZ) (m : MP) (tm : TM) (st : ST) (nx : Nat) (a : Act) (w : World),
    Rel O w0 F0 M0 D (fun b => nx ≤ b) F m sz tm st a w → awp P C sz pins c Q tm st nx → (∀ e a w, Post O w0 F0 M0 D sz Q e a w → QQ e a w) → c.wpIn FF 0 P QQ a w
  | .skip, Q, QQ, F, m, tm, st, nx, a, w, h, hg, hq => wpIn_skip (hq .normal a w ⟨F, m, tm, st, nx, h, hg⟩)
  | .region id ops false, Q, QQ, F, m, tm, st, nx, a, w, h, hg, hq => by
    refine wpIn_region ?_
    have := evOps_sound hC hW (ops := ops) (Q := QQ) ops.toList 0 nx F m tm st a w rfl h hg (by
      intro F' m' tm' st' a' w' hR hK
      exact hq .normal a' w' ⟨F', m', tm', st', _, by simpa using hR, hK⟩)
    simpa using this
  | .seq x y, Q, QQ, F, m, tm, st, nx, a, w, h, hg, hq => by
    refine wpIn_seq ?_
    refine awp_sound hC hW hmix hp x _ _ F m tm st nx a w h hg ?_
    intro e a' w' hpo
    cases e with
    | normal =>
      obtain ⟨F', m', tm', st', nx', hR, hK⟩ := hpo
      exact awp_sound hC hW hmix hp y Q QQ F' m' tm' st' nx' a' w' hR hK hq
    | exit id => exact hq (.exit id) a' w' hpo
    | ret => exact hq .ret a' w' hpo
    | goto l => exact hpo.elim
    | panic c => exact hpo.elim
    | outgrown => exact hpo.elim
  | .cond c x y, Q, QQ, F, m, tm, st, nx, a, w, h, hg, hq => by
    simp only [awp] at hg
    split at hg
    · next b hb =>
      have he := h.ev c
      rw [hb] at he
      have he' : a.eval c = .bool b := he
      obtain ⟨g1, g2⟩ := br_elim hg
      refine wpIn_cond he' ?_
      cases b with
      | true => exact awp_sound hC hW hmix hp x Q QQ F m tm st nx a w h (g1 rfl) hq
      | false => exact awp_sound hC hW hmix hp y Q QQ F m tm st nx a w h (g2 rfl) hq
    · cases hg
  | .block id c, Q, QQ, F, m, tm, st, nx, a, w, h, hg, hq => by
    refine wpIn_block ?_
    refine awp_sound hC hW hmix hp c _ _ F m tm st nx a w h hg ?_
    intro e a' w' hpo
    cases e with
    | normal => exact hq .normal a' w' hpo
    | exit j =>
      obtain ⟨F', m', tm', st', nx', hR, hK⟩ := hpo
      simp only [Exit.inBlock]
      by_cases hj : j = id
      · rw [if_pos hj]
        simp only [hj, decide_true] at hK
        exact hq .normal a' w' ⟨F', m', tm', st', nx', hR, hK⟩
      · rw [if_neg hj]
        simp only [hj, decide_false] at hK
        exact hq (.exit j) a' w' ⟨F', m', tm', st', nx', hR, hK⟩
    | ret => exact hq .ret a' w' hpo
    | goto l => exact hpo.elim
    | panic c => exact hpo.elim
    | outgrown => exact hpo.elim
  | .loop c, Q, QQ, F, m, tm, st, nx, a, w, h, hg, hq => by
    obtain ⟨α, mk, μ, ⟨x0, r0, h0⟩, hround⟩ := hg
    refine wpIn_loop_ghost (fun n a w => ∃ x F m, μ x = n ∧ Rel O w0 F0 M0 D (fun b => (mk x).nx ≤ b) F m sz (mk x).tm (mk x).st a w) (μ x0) ⟨x0, F, _, rfl, h.sub hp h0⟩ ?_
    rintro n a w ⟨x, F, m, rfl, hR⟩
    refine awp_sound hC hW hmix hp c _ _ F m _ _ _ a w hR (hround x) ?_
    intro e a' w' hpo
    cases e with
    | normal =>
      obtain ⟨F', m', tm', st', nx', hR', y, r, hs, hlt⟩ := hpo
      exact ⟨μ y, hlt, y, F', _, rfl, hR'.sub hp hs⟩
    | exit id => exact hq (.exit id) a' w' hpo
    | ret => exact hq .ret a' w' hpo
    | goto l => exact hpo.elim
    | panic c => exact hpo.elim
    | outgrown => exact hpo.elim
  | .exit id, Q, QQ, F, m, tm, st, nx, a, w, h, hg, hq => wpIn_exit (hq (.exit id) a w ⟨F, m, tm, st, nx, h, hg⟩)
  | .ret, Q, QQ, F, m, tm, st, nx, a, w, h, hg, hq => wpIn_ret (hq .ret a w ⟨F, m, tm, st, nx, h, hg⟩)
  | .region id ops true, Q, QQ, F, m, tm, st, nx, a, w, h, hg, hq => by
    simp only [awp] at hg
    split at hg
    · next hah =>
      exact evOpsD_sound hC hW hmix hah h hg fun F' m' tm' st' a' w' hR hK => hq .normal a' w' ⟨F', m', tm', st', _, hR, hK⟩
    · cases hg
  | .rangeFunc _ _ _ _, Q, QQ, F, m, tm, st, nx, a, w, h, hg, hq => by simp [awp] at hg
  | .scope _, Q, QQ, F, m, tm, st, nx, a, w, h, hg, hq => by simp [awp] at hg
  | .label _, Q, QQ, F, m, tm, st, nx, a, w, h, hg, hq => by simp [awp] at hg
  | .goto _, Q, QQ, F, m, tm, st, nx, a, w, h, hg, hq => by simp [awp] at hg
  | .refuse _, Q, QQ, F, m, tm, st, nx, a, w, h, hg, hq => by simp [awp] at hg

theorem RM.go_bind (f : V → RM) (K : V → ST → Prop) : ∀ (r : RM) (st : ST), (r.bind f).go st K ↔ r.go st (fun v st' => (f v).go st' K)
  | .fail, st => Iff.rfl
  | .ret v, st => Iff.rfl
  | .req p k, st => by simp only [RM.bind, RM.go, go_bind f K k]
  | @RM.dec p k _, st => by simp only [RM.bind, RM.go, go_bind f K k]
  | .exi _ p k, st => by simp only [RM.bind, RM.go, fun x => go_bind f K (k x)]
  | .get b k, st => by
    simp only [RM.bind, RM.go]
    split
    · exact go_bind f K _ _
    · exact Iff.rfl
  | .put b x k, st => by simp only [RM.bind, RM.go, go_bind f K k]

/-- What a function's results read as. -/
def resOne (tmps : Array Value) : ResultVar → Sem Value
  | .tmp t => pure (tmps.getD t undef)
  | .cell a t => do loadVar t (← asAddr (tmps.getD a undef))

def packV : List Value → Value
  | [v] => v
  | vs => .tuple vs.toArray

theorem results_eq (fn : Func) (tmps : Array Value) (w : World) (vs : List Value) (h : (fn.results.toList.mapM (resOne tmps)).run P w = .ok vs w) :
    (results fn tmps).run P w = .ok (packV vs) w := by
  have e : fn.results.mapM (resOne tmps) = List.toArray <$> fn.results.toList.mapM (resOne tmps) := by
    conv => lhs; rw [show fn.results = fn.results.toList.toArray by simp]
    rw [List.mapM_toArray]
  show Sem.run P (do let vs ← fn.results.mapM (resOne tmps); pure (if h : vs.size = 1 then vs[0] else .tuple vs)) w = _
  rw [e]
  simp only [Sem.run_bind, Sem.run_map, h, Result.andThen_ok, Sem.run_pure]
  congr 1
  match vs with
  | [] => rfl
  | [v] => rfl
  | v :: v' :: vs => simp [packV]

theorem resR_sound {O : Nat → Prop} {w0 : World} {F0 : FZ} {M0 : MP} {D : List Deferred} {U : Nat → Prop} {m : MP} {sz : Nat} {tm : TM} {a : Act} {w : World} {K : V → ST → Prop} : ∀ (l : List ResultVar) (acc : List V) (vs : List Value) (F : FZ) (st : ST),
    Rel O w0 F0 M0 D U F m sz tm st a w → (resR P tm l acc).go st K → acc.length = vs.length → (∀ (i : Nat) (c : V) (x : Value), acc[i]? = some c → vs[i]? = some x → RV m F w.heap c x) →
    ∃ F' st' vs' c, Rel O w0 F0 M0 D U F' m sz tm st' a w ∧ (l.mapM (resOne a.tmps)).run P w = .ok vs' w ∧ RC F' w.heap c (packV (vs ++ vs')) ∧ K c st'
  | [], acc, vs, F, st, h, hg, hl, hv => by
    simp only [resR] at hg
    match acc, vs, hl with
    | [c], [x], _ =>
      obtain ⟨F1, st1, c1, r1, e1, r2, r3, _⟩ := fz_sound 4 c x _ st F K h (hv 0 c x rfl rfl) hg
      exact ⟨F1, st1, [], c1, r1, by simp, r2, r3⟩
    | [], [], _ =>
      obtain ⟨F1, st1, cs1, r1, e1, r2, r3, _⟩ := mapRM_sound (fz_sound 4) [] [] _ st F K h rfl (by simp) hg
      exact ⟨F1, st1, [], .tup cs1, r1, by simp, ⟨_, rfl, r2⟩, r3⟩
    | c :: d :: acc, x :: y :: vs, hl =>
      obtain ⟨F1, st1, cs1, r1, e1, r2, r3, _⟩ := mapRM_sound (fz_sound 4) (c :: d :: acc) (x :: y :: vs) _ st F K h hl hv hg
      exact ⟨F1, st1, [], .tup cs1, r1, by simp, ⟨(x :: y :: vs).toArray, by simp [packV], by simpa using r2⟩, r3⟩
  | .tmp t :: l, acc, vs, F, st, h, hg, hl, hv => by
    simp only [resR] at hg
    obtain ⟨F1, st1, vs1, c, r1, r2, r3, r4⟩ := resR_sound l (acc ++ [(look tm t).getD .top]) (vs ++ [a.tmps.getD t undef]) F st h hg (by simp [hl]) (by
      intro i c x hc hx
      by_cases hi : i < acc.length
      · rw [List.getElem?_append_left hi] at hc
        rw [List.getElem?_append_left (by omega)] at hx
        exact hv i c x hc hx
      · rw [List.getElem?_append_right (by omega)] at hc
        rw [List.getElem?_append_right (by omega), ← hl] at hx
        cases hi0 : i - acc.length with
        | zero => rw [hi0] at hc hx; simp at hc hx; subst hc hx; have := h.htm t; rwa [Array.getD_eq_getD_getElem?] at this
        | succ n => rw [hi0] at hc; simp at hc)
    refine ⟨F1, st1, a.tmps.getD t undef :: vs1, c, r1, ?_, by simpa using r3, r4⟩
    simp [List.mapM_cons, resOne, r2]
  | .cell p t :: l, acc, vs, F, st, h, hg, hl, hv => by
    simp only [resR] at hg
    rw [RM.go_bind] at hg
    obtain ⟨F0', st0, c0, v0, h0, e0, hrun, hv0, hg⟩ := load_sound (P := P) (C := fun _ => none) h hg
    obtain ⟨F1, st1, vs1, c, r1, r2, r3, r4⟩ := resR_sound l (acc ++ [c0]) (vs ++ [v0]) F0' st0 h0 hg (by simp [hl]) (by
      intro i c x hc hx
      by_cases hi : i < acc.length
      · rw [List.getElem?_append_left hi] at hc
        rw [List.getElem?_append_left (by omega)] at hx
        exact (hv i c x hc hx).mono (fun _ _ e => e) e0 (Keeps.refl _ _)
      · rw [List.getElem?_append_right (by omega)] at hc
        rw [List.getElem?_append_right (by omega), ← hl] at hx
        cases hi0 : i - acc.length with
        | zero => rw [hi0] at hc hx; simp at hc hx; subst hc hx; exact hv0
        | succ n => rw [hi0] at hc; simp at hc)
    refine ⟨F1, st1, v0 :: vs1, c, r1, ?_, by simpa using r3, r4⟩
    have hld : (resOne a.tmps (.cell p t)).run P w = .ok v0 w := by
      have e : a.eval (.tmp p) = a.tmps.getD p undef := rfl
      rw [e] at hrun
      simp only [resOne]
      cases hp : a.tmps.getD p undef with
      | pointer q =>
        rw [hp] at hrun
        cases q with
        | some q => simpa [asAddr, Instr.loadAt, Instr.sureAddr] using hrun
        | none => simp [Instr.loadAt, Instr.sureAddr, Result.andThen] at hrun
      | _ => rw [hp] at hrun; simp [Instr.loadAt, Instr.sureAddr, Result.andThen] at hrun
    simp [List.mapM_cons, hld, r2]

/-- The state at a function's begin. -/
def startT (avs : List V) : TM := (List.range avs.length).zip avs

theorem look_start : ∀ (avs : List V) (k i : Nat), look (((List.range' k avs.length)).zip avs) i = if k ≤ i then avs[i - k]? else none
  | [], k, i => by simp
  | c :: avs, k, i => by
    simp only [List.length_cons, List.range'_succ, List.zip_cons_cons, look_cons, look_start avs (k + 1) i]
    by_cases h : k = i
    · subst h; simp
    · rw [if_neg h]
      by_cases h2 : k + 1 ≤ i
      · rw [if_pos h2, if_pos (by omega)]
        have : i - k = i - (k + 1) + 1 := by omega
        rw [this, List.getElem?_cons_succ]
      · rw [if_neg h2, if_neg (by omega)]

/-- The boxes at a function's begin. -/
def startS (ps : List Bx) : ST := (List.range ps.length).zip ps

theorem look_starts : ∀ (ps : List Bx) (k i : Nat), look (((List.range' k ps.length)).zip ps) i = if k ≤ i then ps[i - k]? else none
  | [], k, i => by simp
  | c :: ps, k, i => by
    simp only [List.length_cons, List.range'_succ, List.zip_cons_cons, look_cons, look_starts ps (k + 1) i]
    by_cases h : k = i
    · subst h; simp
    · rw [if_neg h]
      by_cases h2 : k + 1 ≤ i
      · rw [if_pos h2, if_pos (by omega)]
        have : i - k = i - (k + 1) + 1 := by omega
        rw [this, List.getElem?_cons_succ]
      · rw [if_neg h2, if_neg (by omega)]

theorem look_startS (ps : List Bx) (i : Nat) : look (startS ps) i = ps[i]? := by
  unfold startS
  rw [List.range_eq_range', look_starts ps 0 i]
  simp

/-- The boxes at a function's end. -/
def postB : Nat → List Bx → ST → Prop
  | _, [], _ => True
  | i, p :: ps, st => look st i = some p ∧ postB (i + 1) ps st

theorem postB_get : ∀ {ps : List Bx} {k : Nat} {st : ST}, postB k ps st → ∀ (i : Nat) (p : Bx), ps[i]? = some p → look st (k + i) = some p
  | [], _, _, _, i, p, h => by simp at h
  | q :: ps, k, st, ⟨h1, h2⟩, i, p, h => by
    cases i with
    | zero => simp at h; subst h; exact h1
    | succ i =>
      have := postB_get h2 i p (by simpa using h)
      rwa [show k + 1 + i = k + (i + 1) by omega] at this

/-- A FUNCTION: what the evaluator says of its body holds of its calls. -/
theorem soundV_of_awp (hC : CtxOK P C) (hmix : P.follows .mixedOrders = true) {f : FuncId} {fn : Func} {c : Code} (hf : P.funcs[f]? = some fn) (hb : fn.body = some c) {con : Con}
    (h : ∀ x, con.ok x → (con.enc x).length ≤ fn.ntmps ∧ awp P C fn.ntmps 0 c (fun e tm st nx => match e with
      | .exit _ => False
      | _ => (resR P tm fn.results.toList []).go st fun r _ => r = con.res x) (startT (con.enc x)) [] 0) : SoundV P f con := by
  intro x F w vs hF hv hok
  obtain ⟨hlen, hawp⟩ := h x hok
  generalize havs : con.enc x = avs at hlen hawp hv
  have hl := RCs_length hv
  refine callsIn_wide.1 (callsIn_of_wp (n := 0) hf hb trivial ?_)
  have hR : Rel (fun g => w.heap.size ≤ g) w F (fun _ => none) [] (fun b => 0 ≤ b) F (fun _ => none) fn.ntmps (startT avs) [] { tmps := vs.toArray ++ Array.replicate (fn.ntmps - vs.toArray.size) undef, defers := [] } w := by
    refine { htm := fun i => ?_, hsz := by simp; omega, hde := rfl, hst := fun b x hx => by simp at hx, inj := fun b b' g c c' _ _ hm => (by cases hm), fresh := fun b _ => ⟨rfl, rfl⟩, pin := fun b y e => (by cases e), keep := Keeps.refl _ _, f0 := fun _ _ e => e, f1 := fun _ _ e => .inl e, f2 := hF, mlt := fun b g c hm => (by cases hm), below := Own.refl _ _, hb := fun _ e => e }
    have e : look (startT avs) i = avs[i]? := by
      unfold startT
      rw [List.range_eq_range', look_start avs 0 i]
      simp
    rw [e]
    cases hi : avs[i]? with
    | none => exact trivial
    | some c =>
      have hil : i < avs.length := (List.getElem?_eq_some_iff.1 hi).1
      have hx : vs[i]? = some (vs[i]'(by omega)) := List.getElem?_eq_getElem (by omega)
      have := ((RCs_iff.1 hv).2 i c _ hi hx).1
      simp only [Option.getD_some]
      have e2 : (vs.toArray ++ Array.replicate (fn.ntmps - vs.toArray.size) undef).getD i undef = vs[i]'(by omega) := by
        rw [Array.getD_eq_getD_getElem?, Array.getElem?_append_left (by simp; omega)]
        simp [hx]
      rw [e2]
      exact RV.of_RC this
  refine awp_sound (pins := 0) hC wide_wide hmix (fun b y e => by cases e) c _ _ F _ _ _ 0 _ w hR hawp ?_
  have fin : ∀ (a' : Act) (w' : World) (F' : FZ) (m' : MP) (tm' : TM) (st' : ST) (nx' : Nat), Rel (fun g => w.heap.size ≤ g) w F (fun _ => none) [] (fun b => nx' ≤ b) F' m' fn.ntmps tm' st' a' w' → (resR P tm' fn.results.toList []).go st' (fun r _ => r = con.res x) →
      a'.defers = [] ∧ ∃ v, (results fn a'.tmps).run P w' = .ok v w' ∧ ∃ v_1 F', Ending.returned v = Ending.returned v_1 ∧ Below w.heap.size w w' ∧ (∀ g j, F g j → F' g j) ∧ (∀ g j, F' g j → F g j ∨ w.heap.size ≤ g) ∧ (∀ g j, F' g j → g < w'.heap.size) ∧ RC F' w'.heap (con.res x) v_1 := by
    intro a' w' F' m' tm' st' nx' hR' hg
    obtain ⟨F1, st1, vs1, c1, r1, r2, r3, r4⟩ := resR_sound fn.results.toList [] [] F' st' hR' hg rfl (by simp)
    subst r4
    exact ⟨hR'.hde, _, results_eq fn a'.tmps w' vs1 r2, _, F1, rfl, r1.below.below, r1.f0, r1.f1, r1.f2, r3⟩
  intro e a' w' hpo
  cases e with
  | normal => obtain ⟨F', m', tm', st', nx', hR', hg⟩ := hpo; exact fin a' w' F' m' tm' st' nx' hR' hg
  | ret => obtain ⟨F', m', tm', st', nx', hR', hg⟩ := hpo; exact fin a' w' F' m' tm' st' nx' hR' hg
  | exit id => obtain ⟨F', m', tm', st', nx', hR', hg⟩ := hpo; exact hg.elim
  | goto l => exact hpo.elim
  | panic c => exact hpo.elim
  | outgrown => exact hpo.elim

theorem soundE_of_awp (hC : CtxOK P C) (hmix : P.follows .mixedOrders = true) {f : FuncId} {fn : Func} {c : Code} (hf : P.funcs[f]? = some fn) (hb : fn.body = some c) {con : Con} {e : Eff con.α}
    (h : ∀ x, con.ok x → (con.enc x).length ≤ fn.ntmps ∧ awp P C fn.ntmps (e.pre x).length c (fun en tm st nx => match en with
      | .exit _ => False
      | _ => (resR P tm fn.results.toList []).go st fun r st' => r = con.res x ∧ postB 0 (e.post x) st') (startT (con.enc x)) (startS (e.pre x)) (e.pre x).length) : SoundE P f con e := by
  intro x m F w vs hF hm hl hv hpre hinj hok
  obtain ⟨hlen, hawp⟩ := h x hok
  generalize havs : con.enc x = avs at hlen hawp hv hl
  refine callsIn_wide.1 (callsIn_of_wp (n := 0) hf hb trivial ?_)
  have hR : Rel (Handed m w) w F m [] (fun b => (e.pre x).length ≤ b) F m fn.ntmps (startT avs) (startS (e.pre x)) { tmps := vs.toArray ++ Array.replicate (fn.ntmps - vs.toArray.size) undef, defers := [] } w := by
    refine { htm := fun i => ?_, hsz := by simp; omega, hde := rfl, hst := fun b p hp => hpre b p (by rwa [look_startS] at hp), inj := fun b b' g c c' _ _ h1 h2 => hinj b b' g c c' h1 h2, fresh := fun b hb => ⟨?_, ?_⟩, pin := fun b y e => e, keep := Keeps.refl _ _, f0 := fun _ _ e => e, f1 := fun _ _ e => .inl e, f2 := hF, mlt := fun b g c hm' => (hm b g c hm').2, below := Own.refl _ _, hb := fun _ e => .inr e }
    · have e : look (startT avs) i = avs[i]? := by
        unfold startT
        rw [List.range_eq_range', look_start avs 0 i]
        simp
      rw [e]
      cases hi : avs[i]? with
      | none => exact trivial
      | some c =>
        have hil : i < avs.length := (List.getElem?_eq_some_iff.1 hi).1
        have hx : vs[i]? = some (vs[i]'(by omega)) := List.getElem?_eq_getElem (by omega)
        have := hv i c _ hi hx
        simp only [Option.getD_some]
        have e2 : (vs.toArray ++ Array.replicate (fn.ntmps - vs.toArray.size) undef).getD i undef = vs[i]'(by omega) := by
          rw [Array.getD_eq_getD_getElem?, Array.getElem?_append_left (by simp; omega)]
          simp [hx]
        rw [e2]
        exact this
    · rw [look_startS]; exact List.getElem?_eq_none hb
    · cases hb' : m b with
      | none => rfl
      | some y => have := (hm b y.1 y.2 hb').1; omega
  refine awp_sound (pins := (e.pre x).length) hC wide_wide hmix (fun b y hy => (hm b y.1 y.2 hy).1) c _ _ F _ _ _ _ _ w hR hawp ?_
  have fin : ∀ (a' : Act) (w' : World) (F' : FZ) (m' : MP) (tm' : TM) (st' : ST) (nx' : Nat), Rel (Handed m w) w F m [] (fun b => nx' ≤ b) F' m' fn.ntmps tm' st' a' w' → (resR P tm' fn.results.toList []).go st' (fun r st2 => r = con.res x ∧ postB 0 (e.post x) st2) →
      a'.defers = [] ∧ ∃ v, (results fn a'.tmps).run P w' = .ok v w' ∧ ∃ v_1 F' m', Ending.returned v = Ending.returned v_1 ∧ Own (Handed m w) w w' ∧ Keeps F w.heap w'.heap ∧ (∀ b y, m b = some y → m' b = some y) ∧ (∀ g j, F g j → F' g j) ∧ (∀ g j, F' g j → F g j ∨ Handed m w g) ∧
      (∀ g j, F' g j → g < w'.heap.size) ∧ RC F' w'.heap (con.res x) v_1 ∧ ∀ (i : Nat) (p : Bx), (e.post x)[i]? = some p → RBx (Handed m w) m' F' w'.heap i p := by
    intro a' w' F' m' tm' st' nx' hR' hg
    obtain ⟨F1, st1, vs1, c1, r1, r2, r3, r4, r5⟩ := resR_sound fn.results.toList [] [] F' st' hR' hg rfl (by simp)
    subst r4
    refine ⟨hR'.hde, _, results_eq fn a'.tmps w' vs1 r2, _, F1, m', rfl, r1.below, r1.keep, r1.pin, r1.f0, r1.f1, r1.f2, r3, fun i p hp => ?_⟩
    have := postB_get r5 i p hp
    rw [Nat.zero_add] at this
    exact r1.hst i p this
  intro en a' w' hpo
  cases en with
  | normal => obtain ⟨F', m', tm', st', nx', hR', hg⟩ := hpo; exact fin a' w' F' m' tm' st' nx' hR' hg
  | ret => obtain ⟨F', m', tm', st', nx', hR', hg⟩ := hpo; exact fin a' w' F' m' tm' st' nx' hR' hg
  | exit id => obtain ⟨F', m', tm', st', nx', hR', hg⟩ := hpo; exact hg.elim
  | goto l => exact hpo.elim
  | panic c => exact hpo.elim
  | outgrown => exact hpo.elim

end
end Go.Ev
/- Contracts at hand. -/
set_option linter.unusedVariables false
set_option linter.unusedSimpArgs false
namespace Go.Ev

def ctx : List (FuncId × Con) → FuncId → Option Con
  | [], _ => none
  | (g, c) :: l, f => match Nat.beq g f with
    | true => some c
    | false => ctx l f

theorem ctx_nil {P : Program} : CtxOK P (ctx []) := fun _ _ h => by cases h
theorem ctx_cons {P : Program} {g : FuncId} {c : Con} {l : List (FuncId × Con)} (h : Sound P g c ∧ EntersOK P g) (k : CtxOK P (ctx l)) : CtxOK P (ctx ((g, c) :: l)) := by
  intro f c' hf
  simp only [ctx] at hf
  split at hf
  · next hb => have := Nat.eq_of_beq_eq_true hb; subst this; cases hf; exact h
  · exact k f c' hf

/-- A contract, and that the function is entered. -/
def Has (P : Program) (f : FuncId) (c : Con) : Prop := Sound P f c ∧ EntersOK P f

theorem has_of {P : Program} {C : FuncId → Option Con} (hC : CtxOK P C) (hmix : P.follows .mixedOrders = true) {f : FuncId} {fn : Func} {c : Code} (hf : P.funcs[f]? = some fn) (hb : fn.body = some c)
    (hn : (fn.name == "runtime.NumGoroutine") = false) {con : Con}
    (h : ∀ x, con.ok x → (con.enc x).length ≤ fn.ntmps ∧ awp P C fn.ntmps 0 c (fun e tm st nx => match e with
      | .exit _ => False
      | _ => (resR P tm fn.results.toList []).go st fun r _ => r = con.res x) (startT (con.enc x)) [] 0) (he : con.eff = none := by rfl) (hr : con.frs = .keep := by rfl) : Has P f con :=
  ⟨by simp only [Sound, he, hr]; exact soundV_of_awp hC hmix hf hb h, enters_ok hf hn (by simp [hb])⟩

theorem has_ofE {P : Program} {C : FuncId → Option Con} (hC : CtxOK P C) (hmix : P.follows .mixedOrders = true) {f : FuncId} {fn : Func} {c : Code} (hf : P.funcs[f]? = some fn) (hb : fn.body = some c)
    (hn : (fn.name == "runtime.NumGoroutine") = false) {con : Con} {e : Eff con.α}
    (h : ∀ x, con.ok x → (con.enc x).length ≤ fn.ntmps ∧ awp P C fn.ntmps (e.pre x).length c (fun en tm st nx => match en with
      | .exit _ => False
      | _ => (resR P tm fn.results.toList []).go st fun r st' => r = con.res x ∧ postB 0 (e.post x) st') (startT (con.enc x)) (startS (e.pre x)) (e.pre x).length) (he : con.eff = some e := by rfl) : Has P f con :=
  ⟨by simp only [Sound, he]; exact soundE_of_awp hC hmix hf hb h, enters_ok hf hn (by simp [hb])⟩

/-- What is asked at a function's end. -/
def endV (P : Program) (fn : Func) (r : V) (e : AX) (tm : TM) (st : ST) (nx : Nat) : Prop := match e with
  | .exit _ => False
  | _ => (resR P tm fn.results.toList []).go st fun r' _ => r' = r
def endE (P : Program) (fn : Func) (r : V) (ps : List Bx) (e : AX) (tm : TM) (st : ST) (nx : Nat) : Prop := match e with
  | .exit _ => False
  | _ => (resR P tm fn.results.toList []).go st fun r' st' => r' = r ∧ postB 0 ps st'

/-- A function by its body: to be followed where it is called. -/
def cRun (P : Program) (C : FuncId → Option Con) (fn : Func) (c : Code) : Con := { α := List V × V, enc := Prod.fst, ok := fun x => x.1.length ≤ fn.ntmps ∧ awp P C fn.ntmps 0 c (endV P fn x.2) (startT x.1) [] 0, res := Prod.snd }
theorem has_run {P : Program} {C : FuncId → Option Con} (hC : CtxOK P C) (hmix : P.follows .mixedOrders = true) {f : FuncId} {fn : Func} {c : Code} (hf : P.funcs[f]? = some fn) (hb : fn.body = some c)
    (hn : (fn.name == "runtime.NumGoroutine") = false) : Has P f (cRun P C fn c) := has_of hC hmix hf hb hn fun x hx => hx

structure RunE where
  args : List V
  pre : List Bx
  res : V
  post : List Bx
/-- The same, with boxes handed over. -/
def cRunE (P : Program) (C : FuncId → Option Con) (fn : Func) (c : Code) (own : List Bool) : Con := { α := RunE, enc := RunE.args, ok := fun x => x.args.length ≤ fn.ntmps ∧ awp P C fn.ntmps x.pre.length c (endE P fn x.res x.post) (startT x.args) (startS x.pre) x.pre.length, res := RunE.res, eff := some ⟨own, RunE.pre, RunE.post⟩ }
theorem has_runE {P : Program} {C : FuncId → Option Con} (hC : CtxOK P C) (hmix : P.follows .mixedOrders = true) {f : FuncId} {fn : Func} {c : Code} (hf : P.funcs[f]? = some fn) (hb : fn.body = some c)
    (hn : (fn.name == "runtime.NumGoroutine") = false) (own : List Bool) : Has P f (cRunE P C fn c own) := has_ofE (e := ⟨own, RunE.pre, RunE.post⟩) hC hmix hf hb hn fun x hx => hx

/-- The bool of a value. -/
def isT : V → Bool
  | .v (.bool b) => b
  | _ => false

theorem iEq {a b : Int} {k : IntKind} (h : a = b) : some (V.v (.int k a)) = some (V.v (.int k b)) := by rw [h]
theorem wrap_ok {n : Int} (h : -9223372036854775808 ≤ n) (h' : n ≤ 9223372036854775807) : n = IntKind.i64.wrap n := (IntWalk.i64_in n ⟨h, h'⟩).symm

theorem wrap_succ {k : Nat} (h : k < 9223372036854775807) : ((k + 1 : Nat) : Int) = IntKind.i64.wrap ((k : Int) + 1) := by
  rw [← wrap_ok (n := (k : Int) + 1) (by omega) (by omega)]
  rfl

/-- Neither a box nor a closure. -/
def plain : V → Bool
  | .box _ _ => false
  | .osl _ _ => false
  | .yld _ => false
  | .fn _ _ => false
  | _ => true

theorem ren_caps {caps : List V} (h : caps.all plain = true) (r : List (Nat × Nat)) : caps.mapM (renP r) = some caps := by
  induction caps with
  | nil => rfl
  | cons c caps ih =>
    simp only [List.all_cons, Bool.and_eq_true] at h
    have e : renP r c = some c := by
      have h1 := h.1
      clear ih h
      cases c <;> first | rfl | (simp [plain] at h1)
    simp [List.mapM_cons, e, ih h.2]

theorem ren_fn {g : FuncId} {caps : List V} (h : caps.all plain = true) (r : List (Nat × Nat)) : renV r (.fn g caps) = some (.fn g caps) := by
  simp [renV, ren_caps h]

theorem fzs_plain {k : List V → RM} : ∀ {l : List V}, l.all plain = true → fzs l k = k l := by
  have key : ∀ (l : List V) (k : List V → RM), l.all plain = true → mapRM (fz 4) l k = k l := by
    intro l
    induction l with
    | nil => intro k _; rfl
    | cons c l ih =>
      intro k h
      simp only [List.all_cons, Bool.and_eq_true] at h
      have e : ∀ k, fz 4 c k = k c := by
        intro k
        have h1 := h.1
        clear ih h
        cases c <;> first | rfl | (simp [plain] at h1)
      rw [mapRM, e, ih _ h.2]
  intro l h
  exact key l k h

/-- A call of a closure that is known by its contract alone. -/
theorem go_call {P : Program} {C : FuncId → Option Con} {id : Nat} {ρ : Operand → V} {f : Operand} {args : Array Operand} {ts : Array TypeId} {st : ST} {K : V → ST → Prop} {g : FuncId} {caps avs : List V} {c : Con} {y : c.α}
    (hf : ρ f = .fn g caps) (hc : C g = some c) (hce : c.eff = none) (hp : caps.all plain = true) (ha : args.toList.map ρ = avs) (hap : avs.all plain = true) (he : c.enc y = avs ++ caps) (hok : c.ok y)
    (hk : (RM.retF (c.res y)).go st K) (hcf : c.frs = .keep := by rfl) : (opR P C id ρ (.call { callee := .value f, args := args, argTypes := ts })).go st K := by
  simp only [opR, hf, hc, hce, hcf, ha]
  rw [fzs_plain (by rw [List.all_append, hap, hp]; rfl)]
  exact ⟨y, ⟨levs_eq he.symm, hok⟩, hk⟩
end Go.Ev
/- Slices of records; a condition for all elements. -/
set_option linter.unusedVariables false
set_option linter.unusedSimpArgs false
namespace Go.Ev

/-- Numbers of 64 bits. -/
abbrev wr (n : Int) : Int := IntKind.i64.wrap n

/-- The cells of a slice of records. -/
def recs {α : Type} (enc : α → List V) (l : List α) : List V := l.flatMap enc

theorem recs_length {α : Type} {enc : α → List V} {s : Nat} (h : ∀ a, (enc a).length = s) (l : List α) : (recs enc l).length = l.length * s := by
  induction l with
  | nil => simp [recs]
  | cons a l ih => simp only [recs, List.flatMap_cons, List.length_append, h, List.length_cons] at ih ⊢; rw [ih, Nat.add_mul]; omega

theorem rlen {α : Type} {enc : α → List V} {s : Nat} (h : ∀ a, (enc a).length = s) (l : List α) : l.length * s = (recs enc l).length := (recs_length h l).symm
theorem recs_drop {α : Type} {enc : α → List V} {s : Nat} (h : ∀ a, (enc a).length = s) (l : List α) (k : Nat) : (recs enc l).drop (k * s) = recs enc (l.drop k) := by
  induction l generalizing k with
  | nil => simp [recs]
  | cons a l ih =>
    cases k with
    | zero => simp
    | succ k =>
      have e : (k + 1) * s = (enc a).length + k * s := by rw [h, Nat.add_mul]; omega
      rw [show recs enc (a :: l) = enc a ++ recs enc l from rfl, e, ← List.drop_drop, List.drop_left, ih]
      rfl

theorem recs_get {α : Type} {enc : α → List V} {s : Nat} (h : ∀ a, (enc a).length = s) (l : List α) (k : Nat) (hk : k < l.length) : ((recs enc l).drop (k * s)).take s = enc l[k] := by
  rw [recs_drop h, List.drop_eq_getElem_cons hk]
  rw [show recs enc (l[k] :: l.drop (k + 1)) = enc l[k] ++ recs enc (l.drop (k + 1)) from rfl, ← h l[k], List.take_left]

theorem recs_pre {α : Type} {enc : α → List V} {s : Nat} (h : ∀ a, (enc a).length = s) {l : List α} {k : Nat} (hk : k < l.length) (hs : 0 < s) :
    0 ≤ (k : Int) ∧ (k : Int) < (l.length : Int) ∧ l.length * s = (recs enc l).length ∧ 0 < s := by
  rw [recs_length h]; omega

theorem recs_load {α : Type} {enc : α → List V} {s : Nat} (h : ∀ a, (enc a).length = s) {l : List α} {k : Nat} (hk : k < l.length) : 0 + s ≤ ((recs enc l).drop (k * s)).length := by
  rw [recs_drop h, recs_length h, List.length_drop]
  have : 1 * s ≤ (l.length - k) * s := Nat.mul_le_mul_right s (by omega)
  omega

theorem all_false {α : Type} {l : List α} {p : α → Bool} {k : Nat} (h : k < l.length) (hp : p l[k] = false) : l.all p = false := by
  cases e : l.all p with
  | false => rfl
  | true => rw [List.all_eq_true] at e; rw [e l[k] (by simp)] at hp; cases hp

structure Every (α : Type) where
  l : List α
  g : FuncId
  caps : List V
  p : α → Bool
def cEvery {α : Type} (enc : α → List V) (C : FuncId → Option Con) : Con := { α := Every α, enc := fun x => [.sl (recs enc x.l) x.l.length, .fn x.g x.caps], ok := fun x => x.l.length ≤ 140737488355328 ∧ x.caps.all plain = true ∧ ∃ c, C x.g = some c ∧ c.eff = none ∧ ∀ e ∈ x.l, ∃ y, c.enc y = .agg (enc e) :: x.caps ∧ c.ok y ∧ c.res y = (V.v (.bool (x.p e))), res := fun x => (V.v (.bool (x.l.all x.p))) }

theorem foldl_take {α β : Type} (f : β → α → β) (b : β) (l : List α) (k : Nat) (h : k < l.length) : (l.take (k + 1)).foldl f b = f ((l.take k).foldl f b) l[k] := by
  rw [List.take_succ_eq_append_getElem h, List.foldl_append]
  rfl


/-- A part of a record. -/
theorem recs_sub {α : Type} {enc : α → List V} {s : Nat} (h : ∀ a, (enc a).length = s) (l : List α) (k o n : Nat) (hk : k < l.length) (hn : o + n ≤ s) :
    (((recs enc l).drop (k * s)).drop o).take n = ((enc l[k]).drop o).take n := by
  rw [← recs_get h l k hk, List.drop_take, List.take_take, Nat.min_eq_left (by omega)]
theorem recs_sub_len {α : Type} {enc : α → List V} {s : Nat} (h : ∀ a, (enc a).length = s) {l : List α} {k o n : Nat} (hk : k < l.length) (hn : o + n ≤ s) :
    0 + n ≤ (((recs enc l).drop (k * s)).drop o).length := by
  have := recs_load (s := s) h hk
  rw [List.length_drop]; omega
theorem recs_set {α : Type} {enc : α → List V} {s : Nat} (h : ∀ a, (enc a).length = s) (l : List α) (k : Nat) (x : α) (hk : k < l.length) :
    (recs enc l).take (k * s) ++ enc x ++ (recs enc l).drop (k * s + s) = recs enc (l.set k x) := by
  have e1 : (recs enc l).take (k * s) = recs enc (l.take k) := by
    have : recs enc l = recs enc (l.take k) ++ recs enc (l.drop k) := by
      simp only [recs, ← List.flatMap_append, List.take_append_drop]
    rw [this, ← show (recs enc (l.take k)).length = k * s by rw [recs_length h, List.length_take, Nat.min_eq_left (by omega)], List.take_left]
  have e2 : k * s + s = (k + 1) * s := by rw [Nat.add_mul]; omega
  rw [e1, e2, recs_drop h, List.set_eq_take_append_cons_drop, if_pos hk]
  simp [recs, List.flatMap_append]
theorem recs_replicate {α : Type} {enc : α → List V} (x : α) (n : Nat) : (List.replicate n (enc x)).flatten = recs enc (List.replicate n x) := by
  induction n with
  | zero => rfl
  | succ n ih => simp [List.replicate_succ, recs] at ih ⊢; exact ih

theorem recs_cell {α : Type} {enc : α → List V} {s : Nat} (h : ∀ a, (enc a).length = s) (l : List α) (k o : Nat) (hk : k < l.length) (ho : o < s) :
    (((((recs enc l).drop (k * s)).drop o)[0]?).getD .top) = (((enc l[k])[o]?).getD .top) := by
  have e := recs_sub h l k o 1 hk (by omega)
  have e1 : ((((recs enc l).drop (k * s)).drop o).take 1)[0]? = ((((enc l[k]).drop o)).take 1)[0]? := by rw [e]
  rw [List.getElem?_take, List.getElem?_take, if_pos (by decide), if_pos (by decide)] at e1
  rw [e1, List.getElem?_drop, Nat.add_zero]

theorem go_cell {α : Type} {enc : α → List V} {s : Nat} (h : ∀ a, (enc a).length = s) {l : List α} {k o : Nat} {v : V} (hk : k < l.length) (ho : o < s) (hv : (((enc l[k])[o]?).getD .top) = v) {d : Decidable (0 < (((recs enc l).drop (k * s)).drop o).length)} {K : V → ST → Prop} {st : ST}
    (hn : (RM.retF v).go st K) : (@RM.dec (0 < (((recs enc l).drop (k * s)).drop o).length) (RM.retF (((((recs enc l).drop (k * s)).drop o)[0]?).getD .top)) d).go st K := by
  refine ⟨?_, ?_⟩
  · have := recs_sub_len (s := s) (o := o) (n := 1) h hk (by omega); omega
  · rw [recs_cell h l k o hk ho, hv]; exact hn
theorem goT_cell {α : Type} {enc : α → List V} {s : Nat} (h : ∀ a, (enc a).length = s) {l : List α} {k o : Nat} {v : V} (hk : k < l.length) (ho : o < s) (hv : (((enc l[k])[o]?).getD .top) = v) {d : Decidable (0 < (((recs enc l).drop (k * s)).drop o).length)} {K : V → ST → List Nat → List Nat → Prop} {st : ST} {rs ws : List Nat}
    (hn : (RM.retF v).goT st rs ws K) : (@RM.dec (0 < (((recs enc l).drop (k * s)).drop o).length) (RM.retF (((((recs enc l).drop (k * s)).drop o)[0]?).getD .top)) d).goT st rs ws K := by
  refine ⟨?_, ?_⟩
  · have := recs_sub_len (s := s) (o := o) (n := 1) h hk (by omega); omega
  · rw [recs_cell h l k o hk ho, hv]; exact hn

theorem goT_cell2 {α : Type} {enc : α → List V} {s : Nat} (h : ∀ a, (enc a).length = s) {l : List α} {k o o2 : Nat} {v : V} (hk : k < l.length) (ho : o + o2 < s) (hv : (((enc l[k])[o + o2]?).getD .top) = v) {d : Decidable (0 < ((((recs enc l).drop (k * s)).drop o).drop o2).length)} {K : V → ST → List Nat → List Nat → Prop} {st : ST} {rs ws : List Nat}
    (hn : (RM.retF v).goT st rs ws K) : (@RM.dec (0 < ((((recs enc l).drop (k * s)).drop o).drop o2).length) (RM.retF ((((((recs enc l).drop (k * s)).drop o).drop o2)[0]?).getD .top)) d).goT st rs ws K := by
  refine ⟨?_, ?_⟩
  · have := recs_sub_len (s := s) (o := o + o2) (n := 1) h hk (by omega); rw [List.drop_drop]; omega
  · rw [List.drop_drop, recs_cell h l k (o + o2) hk ho, hv]; exact hn
theorem go_cell2 {α : Type} {enc : α → List V} {s : Nat} (h : ∀ a, (enc a).length = s) {l : List α} {k o o2 : Nat} {v : V} (hk : k < l.length) (ho : o + o2 < s) (hv : (((enc l[k])[o + o2]?).getD .top) = v) {d : Decidable (0 < ((((recs enc l).drop (k * s)).drop o).drop o2).length)} {K : V → ST → Prop} {st : ST}
    (hn : (RM.retF v).go st K) : (@RM.dec (0 < ((((recs enc l).drop (k * s)).drop o).drop o2).length) (RM.retF ((((((recs enc l).drop (k * s)).drop o).drop o2)[0]?).getD .top)) d).go st K := by
  refine ⟨?_, ?_⟩
  · have := recs_sub_len (s := s) (o := o + o2) (n := 1) h hk (by omega); rw [List.drop_drop]; omega
  · rw [List.drop_drop, recs_cell h l k (o + o2) hk ho, hv]; exact hn
end Go.Ev
/- Steps of the evaluator, one at a time: what follows is not looked into. -/
set_option linter.unusedVariables false
set_option linter.unusedSimpArgs false
namespace Go.Ev

section
variable {P : Program} {C : FuncId → Option Con} {sz pins nx id : Nat} {tm : TM} {st : ST}

theorem go_ret {K : V → ST → Prop} {v : V} (h : K v st) : (RM.ret v).go st K := h
theorem go_req {K : V → ST → Prop} {p : Prop} {d : Decidable p} {k : RM} (hp : p) (h : k.go st K) : (@RM.dec p k d).go st K := ⟨hp, h⟩
theorem go_reqP {K : V → ST → Prop} {p : Prop} {k : RM} (hp : p) (h : k.go st K) : (RM.req p k).go st K := ⟨hp, h⟩
theorem go_get {K : V → ST → Prop} {b : Nat} {k : Bx → RM} {x : Bx} (hx : look st b = some x) (h : (k x).go st K) : (RM.get b k).go st K := by
  simp only [RM.go, hx]; exact h
theorem go_put {K : V → ST → Prop} {b : Nat} {x : Bx} {k : RM} (h : k.go ((b, x) :: st) K) : (RM.put b x k).go st K := h
theorem go_exi {K : V → ST → Prop} {α : Type} {p : α → Prop} {k : α → RM} (x : α) (hp : p x) (h : (k x).go st K) : (RM.exi α p k).go st K := ⟨x, hp, h⟩

theorem ops_nil {all : List Oper} {K : TM → ST → Prop} (h : K tm st) : evOps P C sz all [] id tm st K := h
theorem ops_cons {all : List Oper} {o : Oper} {os : List Oper} {K : TM → ST → Prop} (hd : okDst sz o.dst = true) (hg : o.guard = none)
    (h : (opR P C id (ev tm) o.op).go st fun v st' => evOps P C sz all os (id + 1) (putT tm o.dst v) st' K) : evOps P C sz all (o :: os) id tm st K := by
  unfold evOps
  simp only [hd, hg]
  exact h
theorem ops_take {all : List Oper} {o : Oper} {os : List Oper} {K : TM → ST → Prop} {j d : Nat} {want : Bool} (hd : okDst sz o.dst = true) (hg : o.guard = some (j, want)) (hj : (all[j]?).bind (·.dst) = some d) (hl : (look tm d).getD .top = .v (.bool want))
    (h : (opR P C id (ev tm) o.op).go st fun v st' => evOps P C sz all os (id + 1) (putT tm o.dst v) st' K) : evOps P C sz all (o :: os) id tm st K := by
  unfold evOps
  simp only [hd, hg, hj, hl]
  cases want with
  | true => exact h
  | false => exact h
theorem ops_skip {all : List Oper} {o : Oper} {os : List Oper} {K : TM → ST → Prop} {j d : Nat} {want : Bool} (hd : okDst sz o.dst = true) (hg : o.guard = some (j, want)) (hj : (all[j]?).bind (·.dst) = some d) (hl : (look tm d).getD .top = .v (.bool !want))
    (h : evOps P C sz all os (id + 1) (putT tm o.dst vU) st K) : evOps P C sz all (o :: os) id tm st K := by
  unfold evOps
  simp only [hd, hg, hj, hl]
  cases want with
  | true => exact h
  | false => exact h
theorem ops_skipU {all : List Oper} {o : Oper} {os : List Oper} {K : TM → ST → Prop} {j d : Nat} {want : Bool} {arr : Array Value} (hd : okDst sz o.dst = true) (hg : o.guard = some (j, want)) (hj : (all[j]?).bind (·.dst) = some d) (hl : (look tm d).getD .top = .v (.tuple arr))
    (h : evOps P C sz all os (id + 1) (putT tm o.dst vU) st K) : evOps P C sz all (o :: os) id tm st K := by
  unfold evOps
  simp only [hd, hg, hj, hl]
  exact h
/-- An open test. -/
theorem ops_test {all : List Oper} {o : Oper} {os : List Oper} {K : TM → ST → Prop} {j d : Nat} {want b : Bool} (hd : okDst sz o.dst = true) (hg : o.guard = some (j, want)) (hj : (all[j]?).bind (·.dst) = some d) (hl : (look tm d).getD .top = .v (.bool b))
    (h1 : b = want → (opR P C id (ev tm) o.op).go st fun v st' => evOps P C sz all os (id + 1) (putT tm o.dst v) st' K) (h2 : b = (!want) → evOps P C sz all os (id + 1) (putT tm o.dst vU) st K) : evOps P C sz all (o :: os) id tm st K := by
  unfold evOps
  simp only [hd, hg, hj, hl]
  cases want with
  | true => exact br_intro h1 h2
  | false => exact br_intro h2 h1

def seqK (P : Program) (C : FuncId → Option Con) (sz pins : Nat) (b : Code) (Q : AX → TM → ST → Nat → Prop) (e : AX) (tm : TM) (st : ST) (nx : Nat) : Prop := match e with
  | .normal => awp P C sz pins b Q tm st nx
  | e => Q e tm st nx
def blockK (id : Nat) (Q : AX → TM → ST → Nat → Prop) (e : AX) (tm : TM) (st : ST) (nx : Nat) : Prop := match e with
  | .exit j => match decide (j = id) with
    | true => Q .normal tm st nx
    | false => Q (.exit j) tm st nx
  | e => Q e tm st nx
def loopK (pins : Nat) {α : Type} (mk : α → LS) (μ : α → Nat) (x : α) (Q : AX → TM → ST → Nat → Prop) (e : AX) (tm : TM) (st : ST) (nx : Nat) : Prop := match e with
  | .normal => ∃ y r, Sub pins r (mk y).tm (mk y).st (mk y).nx tm st ∧ μ y < μ x
  | e => Q e tm st nx

variable {Q : AX → TM → ST → Nat → Prop} {a b c : Code}
theorem st_skip (h : Q .normal tm st nx) : awp P C sz pins .skip Q tm st nx := h
theorem st_region {i : Nat} {ops : Array Oper} {l : List Oper} {nx' : Nat} (hl : ops.toList = l) (hn : nx + ops.size = nx') (h : evOps P C sz l l nx tm st fun tm' st' => Q .normal tm' st' nx') : awp P C sz pins (.region i ops false) Q tm st nx := by
  subst hl hn
  exact h
theorem st_regionD {i : Nat} {ops : Array Oper} (ha : aheadB ops.toList = true) (h : evOpsD P C sz ops nx ops.toList 0 tm st [] fun tm' st' => Q .normal tm' st' (nx + ops.size)) : awp P C sz pins (.region i ops true) Q tm st nx := by
  simp only [awp, ha]
  exact h
theorem st_seq (h : awp P C sz pins a (seqK P C sz pins b Q) tm st nx) : awp P C sz pins (.seq a b) Q tm st nx := h
theorem st_cond {x : Operand} {p : Bool} (hc : ev tm x = .v (.bool p)) (h1 : p = true → awp P C sz pins a Q tm st nx) (h2 : p = false → awp P C sz pins b Q tm st nx) : awp P C sz pins (.cond x a b) Q tm st nx := by
  simp only [awp, hc]
  exact br_intro h1 h2
theorem st_condT {x : Operand} (hc : ev tm x = .v (.bool true)) (h1 : awp P C sz pins a Q tm st nx) : awp P C sz pins (.cond x a b) Q tm st nx := st_cond hc (fun _ => h1) (fun e => by cases e)
theorem st_condF {x : Operand} (hc : ev tm x = .v (.bool false)) (h1 : awp P C sz pins b Q tm st nx) : awp P C sz pins (.cond x a b) Q tm st nx := st_cond hc (fun e => by cases e) (fun _ => h1)
theorem st_block {i : Nat} (h : awp P C sz pins a (blockK i Q) tm st nx) : awp P C sz pins (.block i a) Q tm st nx := h
theorem st_exit {i : Nat} (h : Q (.exit i) tm st nx) : awp P C sz pins (.exit i) Q tm st nx := h
theorem st_ret (h : Q .ret tm st nx) : awp P C sz pins .ret Q tm st nx := h
theorem st_loop {α : Type} {mk : α → LS} {μ : α → Nat} (h0 : ∃ x r, Sub pins r (mk x).tm (mk x).st (mk x).nx tm st) (h : ∀ x, awp P C sz pins a (loopK pins mk μ x Q) (mk x).tm (mk x).st (mk x).nx) : awp P C sz pins (.loop a) Q tm st nx := ⟨α, mk, μ, h0, h⟩

theorem k_seq (h : awp P C sz pins b Q tm st nx) : seqK P C sz pins b Q .normal tm st nx := h
theorem k_seqX {i : Nat} (h : Q (.exit i) tm st nx) : seqK P C sz pins b Q (.exit i) tm st nx := h
theorem k_seqR (h : Q .ret tm st nx) : seqK P C sz pins b Q .ret tm st nx := h
theorem k_block {i : Nat} (h : Q .normal tm st nx) : blockK i Q .normal tm st nx := h
theorem k_blockX {i : Nat} (h : Q .normal tm st nx) : blockK i Q (.exit i) tm st nx := by simp only [blockK, decide_true]; exact h
theorem k_blockY {i j : Nat} (hj : decide (j = i) = false) (h : Q (.exit j) tm st nx) : blockK i Q (.exit j) tm st nx := by simp only [blockK, hj]; exact h
theorem k_blockR {i : Nat} (h : Q .ret tm st nx) : blockK i Q .ret tm st nx := h
theorem k_loop {α : Type} {mk : α → LS} {μ : α → Nat} {x : α} (y : α) (r : List (Nat × Nat)) (hs : Sub pins r (mk y).tm (mk y).st (mk y).nx tm st) (hl : μ y < μ x) : loopK pins mk μ x Q .normal tm st nx := ⟨y, r, hs, hl⟩
theorem k_loopX {α : Type} {mk : α → LS} {μ : α → Nat} {x : α} {i : Nat} (h : Q (.exit i) tm st nx) : loopK pins mk μ x Q (.exit i) tm st nx := h
theorem k_loopR {α : Type} {mk : α → LS} {μ : α → Nat} {x : α} (h : Q .ret tm st nx) : loopK pins mk μ x Q .ret tm st nx := h

/-! regions whose order is open -/
variable {rs ws : List Nat}
theorem goT_ret {K : V → ST → List Nat → List Nat → Prop} {v : V} (h : K v st rs ws) : (RM.ret v).goT st rs ws K := h
theorem goT_req {K : V → ST → List Nat → List Nat → Prop} {p : Prop} {d : Decidable p} {k : RM} (hp : p) (h : k.goT st rs ws K) : (@RM.dec p k d).goT st rs ws K := ⟨hp, h⟩
theorem goT_reqP {K : V → ST → List Nat → List Nat → Prop} {p : Prop} {k : RM} (hp : p) (h : k.goT st rs ws K) : (RM.req p k).goT st rs ws K := ⟨hp, h⟩
theorem goT_get {K : V → ST → List Nat → List Nat → Prop} {b : Nat} {k : Bx → RM} {x : Bx} (hx : look st b = some x) (h : (k x).goT st (b :: rs) ws K) : (RM.get b k).goT st rs ws K := by
  simp only [RM.goT, hx]; exact h
theorem goT_put {K : V → ST → List Nat → List Nat → Prop} {b : Nat} {x : Bx} {k : RM} (h : k.goT ((b, x) :: st) rs (b :: ws) K) : (RM.put b x k).goT st rs ws K := h
theorem goT_exi {K : V → ST → List Nat → List Nat → Prop} {α : Type} {p : α → Prop} {k : α → RM} (x : α) (hp : p x) (h : (k x).goT st rs ws K) : (RM.exi α p k).goT st rs ws K := ⟨x, hp, h⟩

def dK (P : Program) (C : FuncId → Option Con) (sz : Nat) (ops : Array Oper) (nx : Nat) (o : Oper) (os : List Oper) (i : Nat) (tm : TM) (prev : List (Nat × Oper × List Nat × List Nat)) (K : TM → ST → Prop) (v : V) (st : ST) (rs ws : List Nat) : Prop :=
  match indepB ops o rs ws prev with
  | false => False
  | true => evOpsD P C sz ops nx os (i + 1) (putT tm o.dst v) st ((i, o, rs, ws) :: prev) K

variable {ops : Array Oper} {o : Oper} {os : List Oper} {i : Nat} {prev : List (Nat × Oper × List Nat × List Nat)} {K : TM → ST → Prop}
theorem d_step {v : V} (hi : indepB ops o rs ws prev = true) (h : evOpsD P C sz ops nx os (i + 1) (putT tm o.dst v) st ((i, o, rs, ws) :: prev) K) : dK P C sz ops nx o os i tm prev K v st rs ws := by
  simp only [dK, hi]; exact h
theorem d_nil (h : K tm st) : evOpsD P C sz ops nx [] i tm st prev K := h
theorem d_cons (hd : okDst sz o.dst = true) (hg : o.guard = none) (h : (opR P C (nx + i) (ev tm) o.op).goT st [] [] (dK P C sz ops nx o os i tm prev K)) : evOpsD P C sz ops nx (o :: os) i tm st prev K := by
  unfold evOpsD
  simp only [hd, hg]
  exact h
theorem d_take {j d : Nat} {want : Bool} (hd : okDst sz o.dst = true) (hg : o.guard = some (j, want)) (hj : (ops.toList[j]?).bind (·.dst) = some d) (hl : (look tm d).getD .top = .v (.bool want))
    (h : (opR P C (nx + i) (ev tm) o.op).goT st [] [] (dK P C sz ops nx o os i tm prev K)) : evOpsD P C sz ops nx (o :: os) i tm st prev K := by
  unfold evOpsD
  simp only [hd, hg, hj, hl]
  cases want with
  | true => exact h
  | false => exact h
theorem d_skip {j d : Nat} {want : Bool} (hd : okDst sz o.dst = true) (hg : o.guard = some (j, want)) (hj : (ops.toList[j]?).bind (·.dst) = some d) (hl : (look tm d).getD .top = .v (.bool !want)) (hi : indepB ops o [] [] prev = true)
    (h : evOpsD P C sz ops nx os (i + 1) (putT tm o.dst vU) st ((i, o, [], []) :: prev) K) : evOpsD P C sz ops nx (o :: os) i tm st prev K := by
  unfold evOpsD
  simp only [hd, hg, hj, hl]
  cases want with
  | true => simp only [Bool.not_true, br, hi]; exact h
  | false => simp only [Bool.not_false, br, hi]; exact h
theorem d_skipU {j d : Nat} {want : Bool} {arr : Array Value} (hd : okDst sz o.dst = true) (hg : o.guard = some (j, want)) (hj : (ops.toList[j]?).bind (·.dst) = some d) (hl : (look tm d).getD .top = .v (.tuple arr)) (hi : indepB ops o [] [] prev = true)
    (h : evOpsD P C sz ops nx os (i + 1) (putT tm o.dst vU) st ((i, o, [], []) :: prev) K) : evOpsD P C sz ops nx (o :: os) i tm st prev K := by
  unfold evOpsD
  simp only [hd, hg, hj, hl, hi]
  exact h
theorem d_test {j d : Nat} {want b : Bool} (hd : okDst sz o.dst = true) (hg : o.guard = some (j, want)) (hj : (ops.toList[j]?).bind (·.dst) = some d) (hl : (look tm d).getD .top = .v (.bool b)) (hi : indepB ops o [] [] prev = true)
    (h1 : b = want → (opR P C (nx + i) (ev tm) o.op).goT st [] [] (dK P C sz ops nx o os i tm prev K)) (h2 : b = (!want) → evOpsD P C sz ops nx os (i + 1) (putT tm o.dst vU) st ((i, o, [], []) :: prev) K) : evOpsD P C sz ops nx (o :: os) i tm st prev K := by
  unfold evOpsD
  simp only [hd, hg, hj, hl]
  cases want with
  | true => exact br_intro h1 (fun e => by simp only [hi]; exact h2 e)
  | false => exact br_intro (fun e => by simp only [hi]; exact h2 e) h1
end
end Go.Ev
/- Functions over typed data, and runs that follow them. -/
set_option linter.unusedVariables false
set_option linter.unusedSimpArgs false
namespace Go.Ev
open Go.RowKit

/-- Do something with the goal, and go on. -/
theorem stp {p q : Prop} (h : q) (c : q → p) : p := c h

/-- Rounds of a loop, fewer than n. -/
def loopN {S E : Type} (step : S → Option (S ⊕ E)) : Nat → S → Option E
  | 0, _ => none
  | n + 1, s => match step s with
    | none => none
    | some (.inl s') => loopN step n s'
    | some (.inr e) => some e

theorem loopN_succ {S E : Type} {step : S → Option (S ⊕ E)} : ∀ {n : Nat} {s : S} {e : E}, loopN step n s = some e → loopN step (n + 1) s = some e
  | 0, _, _, h => by cases h
  | n + 1, s, e, h => by
    unfold loopN at h ⊢
    split at h
    · cases h
    · exact loopN_succ h
    · exact h
theorem loopN_le {S E : Type} {step : S → Option (S ⊕ E)} {n m : Nat} (hm : n ≤ m) {s : S} {e : E} (h : loopN step n s = some e) : loopN step m s = some e := by
  induction hm with
  | refl => exact h
  | step _ ih => exact loopN_succ ih

open Classical in
/-- A loop, as long as it needs. -/
noncomputable def loopC {S E : Type} (step : S → Option (S ⊕ E)) (s : S) : Option E :=
  if h : ∃ n e, loopN step n s = some e then some h.choose_spec.choose else none

theorem loopC_of {S E : Type} {step : S → Option (S ⊕ E)} {s : S} {n : Nat} {e : E} (h : loopN step n s = some e) : loopC step s = some e := by
  have hx : ∃ n e, loopN step n s = some e := ⟨n, e, h⟩
  unfold loopC
  rw [dif_pos hx]
  have h1 := loopN_le (Nat.le_max_left n hx.choose) h
  have h2 := loopN_le (Nat.le_max_right n hx.choose) hx.choose_spec.choose_spec
  rw [h1] at h2
  exact h2.symm
theorem loopC_ex {S E : Type} {step : S → Option (S ⊕ E)} {s : S} {e : E} (h : loopC step s = some e) : ∃ n, loopN step n s = some e := by
  unfold loopC at h
  split at h
  · next hx =>
    obtain rfl := Option.some.inj h
    exact ⟨_, hx.choose_spec.choose_spec⟩
  · cases h
theorem loopC_eq {S E : Type} (step : S → Option (S ⊕ E)) (s : S) : loopC step s = match step s with
    | none => none
    | some (.inl s') => loopC step s'
    | some (.inr e) => some e := by
  cases hs : step s with
  | none =>
    cases h : loopC step s with
    | none => rfl
    | some e => obtain ⟨n, hn⟩ := loopC_ex h; cases n with
      | zero => cases hn
      | succ n => simp [loopN, hs] at hn
  | some o =>
    cases o with
    | inr e => exact loopC_of (n := 1) (by simp [loopN, hs])
    | inl s' =>
      simp only
      cases h : loopC step s' with
      | some e => obtain ⟨n, hn⟩ := loopC_ex h; exact loopC_of (n := n + 1) (by simp [loopN, hs, hn])
      | none =>
        cases h2 : loopC step s with
        | none => rfl
        | some e =>
          obtain ⟨n, hn⟩ := loopC_ex h2
          cases n with
          | zero => cases hn
          | succ n => simp only [loopN, hs] at hn; rw [loopC_of hn] at h; cases h

/-- What a round does next, n rounds at most. -/
def nextF {S E R : Type} (step : S → Option (S ⊕ E)) (K : E → Option R) (n : Nat) : S ⊕ E → Option R
  | .inl s' => (loopN step n s').bind K
  | .inr e => K e

/-! what a function says -/
theorem e_bind {A B R : Type} {g : Option A} {K : A → Option B} {J : B → Option R} {r : R} (h : (g.bind K).bind J = some r) : ∃ y, g = some y ∧ (K y).bind J = some r := by
  cases g with
  | none => cases h
  | some y => exact ⟨y, rfl, h⟩
theorem e_bif {B R : Type} {b : Bool} {x y : Option B} {J : B → Option R} {r : R} (h : (bif b then x else y).bind J = some r) : (b = true ∧ x.bind J = some r) ∨ (b = false ∧ y.bind J = some r) := by
  cases b with
  | true => exact .inl ⟨rfl, h⟩
  | false => exact .inr ⟨rfl, h⟩
theorem e_assoc {A B R : Type} {g : Option A} {K : A → Option B} {J : B → Option R} {r : R} (h : (g.bind K).bind J = some r) : g.bind (fun a => (K a).bind J) = some r := by
  cases g with
  | none => cases h
  | some y => exact h

def endW (P : Program) (fn : Func) (r : V) (e : AX) (tm : TM) (st : ST) (nx : Nat) : Prop := match e with
  | .exit _ => False
  | _ => (resR P tm fn.results.toList []).go st fun r' _ => LeV r' r

theorem soundW_of_awp {P : Program} {C : FuncId → Option Con} (hC : CtxOK P C) (hmix : P.follows .mixedOrders = true) {f : FuncId} {fn : Func} {c : Code} (hf : P.funcs[f]? = some fn) (hb : fn.body = some c) {con : Con}
    (h : ∀ x, con.ok x → (con.enc x).length ≤ fn.ntmps ∧ awp P C fn.ntmps 0 c (fun e tm st nx => match e with
      | .exit _ => False
      | _ => (resR P tm fn.results.toList []).go st fun r _ => LeV r (con.res x)) (startT (con.enc x)) [] 0) : SoundV P f con := by
  intro x F w vs hF hv hok
  obtain ⟨hlen, hawp⟩ := h x hok
  generalize havs : con.enc x = avs at hlen hawp hv
  have hl := RCs_length hv
  refine callsIn_wide.1 (callsIn_of_wp (n := 0) hf hb trivial ?_)
  have hR : Rel (fun g => w.heap.size ≤ g) w F (fun _ => none) [] (fun b => 0 ≤ b) F (fun _ => none) fn.ntmps (startT avs) [] { tmps := vs.toArray ++ Array.replicate (fn.ntmps - vs.toArray.size) undef, defers := [] } w := by
    refine { htm := fun i => ?_, hsz := by simp; omega, hde := rfl, hst := fun b x hx => by simp at hx, inj := fun b b' g c c' _ _ hm => (by cases hm), fresh := fun b _ => ⟨rfl, rfl⟩, pin := fun b y e => (by cases e), keep := Keeps.refl _ _, f0 := fun _ _ e => e, f1 := fun _ _ e => .inl e, f2 := hF, mlt := fun b g c hm => (by cases hm), below := Own.refl _ _, hb := fun _ e => e }
    have e : look (startT avs) i = avs[i]? := by
      unfold startT
      rw [List.range_eq_range', look_start avs 0 i]
      simp
    rw [e]
    cases hi : avs[i]? with
    | none => exact trivial
    | some c =>
      have hil : i < avs.length := (List.getElem?_eq_some_iff.1 hi).1
      have hx : vs[i]? = some (vs[i]'(by omega)) := List.getElem?_eq_getElem (by omega)
      have := ((RCs_iff.1 hv).2 i c _ hi hx).1
      simp only [Option.getD_some]
      have e2 : (vs.toArray ++ Array.replicate (fn.ntmps - vs.toArray.size) undef).getD i undef = vs[i]'(by omega) := by
        rw [Array.getD_eq_getD_getElem?, Array.getElem?_append_left (by simp; omega)]
        simp [hx]
      rw [e2]
      exact RV.of_RC this
  refine awp_sound (pins := 0) hC wide_wide hmix (fun b y e => by cases e) c _ _ F _ _ _ 0 _ w hR hawp ?_
  have fin : ∀ (a' : Act) (w' : World) (F' : FZ) (m' : MP) (tm' : TM) (st' : ST) (nx' : Nat), Rel (fun g => w.heap.size ≤ g) w F (fun _ => none) [] (fun b => nx' ≤ b) F' m' fn.ntmps tm' st' a' w' → (resR P tm' fn.results.toList []).go st' (fun r _ => LeV r (con.res x)) →
      a'.defers = [] ∧ ∃ v, (results fn a'.tmps).run P w' = .ok v w' ∧ ∃ v_1 F', Ending.returned v = Ending.returned v_1 ∧ Below w.heap.size w w' ∧ (∀ g j, F g j → F' g j) ∧ (∀ g j, F' g j → F g j ∨ w.heap.size ≤ g) ∧ (∀ g j, F' g j → g < w'.heap.size) ∧ RC F' w'.heap (con.res x) v_1 := by
    intro a' w' F' m' tm' st' nx' hR' hg
    obtain ⟨F1, st1, vs1, c1, r1, r2, r3, r4⟩ := resR_sound fn.results.toList [] [] F' st' hR' hg rfl (by simp)
    exact ⟨hR'.hde, _, results_eq fn a'.tmps w' vs1 r2, _, F1, rfl, r1.below.below, r1.f0, r1.f1, r1.f2, r4.le _ _ _ r3⟩
  intro e a' w' hpo
  cases e with
  | normal => obtain ⟨F', m', tm', st', nx', hR', hg⟩ := hpo; exact fin a' w' F' m' tm' st' nx' hR' hg
  | ret => obtain ⟨F', m', tm', st', nx', hR', hg⟩ := hpo; exact fin a' w' F' m' tm' st' nx' hR' hg
  | exit id => obtain ⟨F', m', tm', st', nx', hR', hg⟩ := hpo; exact hg.elim
  | goto l => exact hpo.elim
  | panic c => exact hpo.elim
  | outgrown => exact hpo.elim

/-- What is asked of a list that a function makes. -/
def endR (fn : Func) (ty : TypeId) (size : Nat) (r : V) (e : AX) (tm : TM) (st : ST) (nx : Nat) : Prop := match e with
  | .exit _ => False
  | _ => match fn.results.toList with
    | [.tmp t] => (∃ b n cs, (look tm t).getD .top = .osl b n ∧ look st b = some (.row ty size cs 0) ∧ n * size = cs.length ∧ r = .sl cs n) ∨ ((look tm t).getD .top = .v (.slice none 0 0) ∧ r = .sl [] 0)
    | _ => False

theorem fresh_end {O : Nat → Prop} {w0 : World} {F0 : FZ} {M0 : MP} {D : List Deferred} {U : Nat → Prop} {F : FZ} {m : MP} {sz : Nat} {tm : TM} {st : ST} {a : Act} {w : World} (h : Rel O w0 F0 M0 D U F m sz tm st a w) {k : Nat} (hO : ∀ g, O g → k ≤ g)
    {c : V} {x : Value} (hx : RV m F w.heap c x) {ty : TypeId} {size n : Nat} {cs : List V}
    (he : (∃ b n' cs', c = .osl b n' ∧ look st b = some (.row ty size cs' 0) ∧ n' * size = cs'.length ∧ V.sl cs n = .sl cs' n') ∨ (c = .v (.slice none 0 0) ∧ V.sl cs n = .sl [] 0)) : FreshV F k w.heap ty size cs n x := by
  rcases he with ⟨b, n', cs', rfl, hl, hn, hr⟩ | ⟨rfl, hr⟩
  · cases hr
    rcases hx with ⟨g, cap, hm, hnc, rfl⟩ | ⟨rfl, rfl⟩
    · obtain ⟨g', cap', cur, h1, h2, h3, h4, h5, h6, h7, h8, h9, h10⟩ := RBx.real (h.hst b _ hl) hm
      rw [hm] at h1; cases h1
      exact .inl ⟨g, cap, cur, hO _ h2, rfl, hnc, h4, h.mlt _ _ _ hm, h3, h5, h6, h7, fun j hj => absurd (h8 j hj) (Nat.not_lt_zero _)⟩
    · exact .inr ⟨rfl, rfl, List.eq_nil_of_length_eq_zero (by rw [← hn]; exact Nat.zero_mul _)⟩
  · cases hr
    have hx : x = .slice none 0 0 := hx
    exact .inr ⟨hx, rfl, rfl⟩

theorem soundF_of_awp {P : Program} {C : FuncId → Option Con} (hC : CtxOK P C) (hmix : P.follows .mixedOrders = true) {f : FuncId} {fn : Func} {c : Code} (hf : P.funcs[f]? = some fn) (hb : fn.body = some c) {con : Con} {ty : TypeId} {size : Nat}
    (h : ∀ x, con.ok x → (con.enc x).length ≤ fn.ntmps ∧ awp P C fn.ntmps 0 c (endR fn ty size (con.res x)) (startT (con.enc x)) [] 0) : SoundF P f con ty size := by
  intro x F w vs cs n hF hv hok hres
  obtain ⟨hlen, hawp⟩ := h x hok
  rw [hres] at hawp
  generalize havs : con.enc x = avs at hlen hawp hv
  have hl := RCs_length hv
  refine callsIn_wide.1 (callsIn_of_wp (n := 0) hf hb trivial ?_)
  have hR : Rel (fun g => w.heap.size ≤ g) w F (fun _ => none) [] (fun b => 0 ≤ b) F (fun _ => none) fn.ntmps (startT avs) [] { tmps := vs.toArray ++ Array.replicate (fn.ntmps - vs.toArray.size) undef, defers := [] } w := by
    refine { htm := fun i => ?_, hsz := by simp; omega, hde := rfl, hst := fun b x hx => by simp at hx, inj := fun b b' g c c' _ _ hm => (by cases hm), fresh := fun b _ => ⟨rfl, rfl⟩, pin := fun b y e => (by cases e), keep := Keeps.refl _ _, f0 := fun _ _ e => e, f1 := fun _ _ e => .inl e, f2 := hF, mlt := fun b g c hm => (by cases hm), below := Own.refl _ _, hb := fun _ e => e }
    have e : look (startT avs) i = avs[i]? := by
      unfold startT
      rw [List.range_eq_range', look_start avs 0 i]
      simp
    rw [e]
    cases hi : avs[i]? with
    | none => exact trivial
    | some c =>
      have hil : i < avs.length := (List.getElem?_eq_some_iff.1 hi).1
      have hx : vs[i]? = some (vs[i]'(by omega)) := List.getElem?_eq_getElem (by omega)
      have := ((RCs_iff.1 hv).2 i c _ hi hx).1
      simp only [Option.getD_some]
      have e2 : (vs.toArray ++ Array.replicate (fn.ntmps - vs.toArray.size) undef).getD i undef = vs[i]'(by omega) := by
        rw [Array.getD_eq_getD_getElem?, Array.getElem?_append_left (by simp; omega)]
        simp [hx]
      rw [e2]
      exact RV.of_RC this
  refine awp_sound (pins := 0) hC wide_wide hmix (fun b y e => by cases e) c _ _ F _ _ _ 0 _ w hR hawp ?_
  have fin : ∀ (a' : Act) (w' : World) (F' : FZ) (m' : MP) (tm' : TM) (st' : ST) (nx' : Nat), Rel (fun g => w.heap.size ≤ g) w F (fun _ => none) [] (fun b => nx' ≤ b) F' m' fn.ntmps tm' st' a' w' →
      (match fn.results.toList with
        | [.tmp t] => (∃ b n' cs', (look tm' t).getD .top = .osl b n' ∧ look st' b = some (.row ty size cs' 0) ∧ n' * size = cs'.length ∧ V.sl cs n = .sl cs' n') ∨ ((look tm' t).getD .top = .v (.slice none 0 0) ∧ V.sl cs n = .sl [] 0)
        | _ => False) →
      a'.defers = [] ∧ ∃ v, (results fn a'.tmps).run P w' = .ok v w' ∧ ∃ v_1 F', Ending.returned v = Ending.returned v_1 ∧ Below w.heap.size w w' ∧ (∀ g j, F g j → F' g j) ∧ (∀ g j, F' g j → F g j ∨ w.heap.size ≤ g) ∧ (∀ g j, F' g j → g < w'.heap.size) ∧ FreshV F' w.heap.size w'.heap ty size cs n v_1 := by
    intro a' w' F' m' tm' st' nx' hR' hg
    split at hg
    · next t hres =>
      have hr : fn.results = #[.tmp t] := by cases hh : fn.results; rw [hh] at hres; simp at hres; simp [hres]
      refine ⟨hR'.hde, a'.tmps.getD t undef, by simp [results, hr, Array.mapM_eq_mapM_toList], _, F', rfl, hR'.below.below, hR'.f0, hR'.f1, hR'.f2, ?_⟩
      exact fresh_end hR' (fun g e => e) (hR'.htm t) hg
    · exact hg.elim
  intro e a' w' hpo
  cases e with
  | normal => obtain ⟨F', m', tm', st', nx', hR', hg⟩ := hpo; exact fin a' w' F' m' tm' st' nx' hR' hg
  | ret => obtain ⟨F', m', tm', st', nx', hR', hg⟩ := hpo; exact fin a' w' F' m' tm' st' nx' hR' hg
  | exit id => obtain ⟨F', m', tm', st', nx', hR', hg⟩ := hpo; exact hg.elim
  | goto l => exact hpo.elim
  | panic c => exact hpo.elim
  | outgrown => exact hpo.elim

/-- A contract by a function that makes a list. -/
def conR {α β : Type} (F : α → Option β) (enc : α → List V) (er : β → V) (ty : TypeId) (size : Nat) : Con := { α := α × β, enc := fun x => enc x.1, ok := fun x => F x.1 = some x.2, res := fun x => er x.2, frs := .fresh ty size }

/-- The same, where the arguments are lent. -/
def conRL {α β : Type} (F : α → Option β) (enc : α → List V) (er : β → V) (ty : TypeId) (size : Nat) : Con := { α := α × β, enc := fun x => enc x.1, ok := fun x => F x.1 = some x.2, res := fun x => er x.2, frs := .lendF ty size }
def conL' {α β : Type} (F : α → Option β) (enc : α → List V) (er : β → V) : Con := { α := α × β, enc := fun x => enc x.1, ok := fun x => F x.1 = some x.2, res := fun x => er x.2, frs := .lend }

/-- Values that lead nowhere. -/
def isFl : V → Bool
  | .v _ => true
  | _ => false
theorem flat_cells {F : FZ} {H : Array Obj} {one : Bool} {F2 : FZ} {H2 : Array Obj} : ∀ {cs : List V} {xs : List Value}, cs.all isFl = true → RCs F H one cs xs → RCs F2 H2 one cs xs
  | [], [], _, _ => by simp [RCs]
  | c :: cs, x :: xs, h, hr => by
    simp only [List.all_cons, Bool.and_eq_true] at h
    simp only [RCs] at hr ⊢
    refine ⟨⟨?_, hr.1.2⟩, flat_cells h.2 hr.2⟩
    cases c with
    | v y => exact hr.1.1
    | _ => exact absurd h.1 (by simp [isFl])
  | [], _ :: _, _, hr => by simp [RCs] at hr
  | _ :: _, [], _, hr => by simp [RCs] at hr
theorem flat_recs {α : Type} {enc : α → List V} (h : ∀ a, (enc a).all isFl = true) (l : List α) : (recs enc l).all isFl = true := by
  induction l with
  | nil => rfl
  | cons a l ih => rw [show recs enc (a :: l) = enc a ++ recs enc l from rfl, List.all_append, h, ih]; rfl
theorem has_lendF {P : Program} {f : FuncId} {α β : Type} {F : α → Option β} {enc : α → List V} {er : β → V} {ty : TypeId} {size : Nat} (h : Has P f (conR F enc er ty size)) (hf : ∀ r cs n, er r = .sl cs n → cs.all isFl = true) : Has P f (conRL F enc er ty size) :=
  ⟨⟨h.1, fun x cs n F H xs F2 H2 hr hc => flat_cells (hf _ _ _ hr) hc⟩, h.2⟩

/-- A contract by a function. -/
def conF {α β : Type} (F : α → Option β) (enc : α → List V) (er : β → V) : Con := { α := α × β, enc := fun x => enc x.1, ok := fun x => F x.1 = some x.2, res := fun x => er x.2 }

/-- The same, where something more is asked. -/
def conK {α β : Type} (F : α → Option β) (enc : α → List V) (ok : α → Prop) (er : β → V) : Con := { α := α × β, enc := fun x => enc x.1, ok := fun x => F x.1 = some x.2 ∧ ok x.1, res := fun x => er x.2 }

/-- A closure that does what p says. -/
def Callable (C : FuncId → Option Con) (g : FuncId) (caps : List V) {A B : Type} (enc : A → List V) (er : B → V) (p : A → Option B) : Prop :=
  caps.all plain = true ∧ ∃ c, C g = some c ∧ c.eff = none ∧ c.frs = .keep ∧ ∀ a y, p a = some y → ∃ z : c.α, c.enc z = enc a ++ caps ∧ c.ok z ∧ c.res z = er y
theorem callable_conF {C : FuncId → Option Con} {g : FuncId} {caps : List V} {A B X : Type} {enc : A → List V} {er : B → V} {F : X → Option B} {e0 : X → List V} {x : A → X} (h0 : caps.all plain = true) (h1 : C g = some (conF F e0 er)) (h2 : ∀ a, e0 (x a) = enc a ++ caps) : Callable C g caps enc er (fun a => F (x a)) :=
  ⟨h0, _, h1, rfl, rfl, fun a y h => ⟨(x a, y), h2 a, h, rfl⟩⟩

theorem callable_conK {C : FuncId → Option Con} {g : FuncId} {caps : List V} {A B X : Type} {enc : A → List V} {er : B → V} {F : X → Option B} {e0 : X → List V} {ok : X → Prop} {x : A → X} (h0 : caps.all plain = true) (h1 : C g = some (conK F e0 ok er)) (h2 : ∀ a, e0 (x a) = enc a ++ caps) (h3 : ∀ a, ok (x a)) : Callable C g caps enc er (fun a => F (x a)) :=
  ⟨h0, _, h1, rfl, rfl, fun a y h => ⟨(x a, y), h2 a, ⟨h, h3 a⟩, rfl⟩⟩

/-- Contracts at hand, upon others. -/
def ext (C : FuncId → Option Con) : List (FuncId × Con) → FuncId → Option Con
  | [], f => C f
  | (g, c) :: l, f => match Nat.beq g f with
    | true => some c
    | false => ext C l f
theorem ext_nil {P : Program} {C : FuncId → Option Con} (h : CtxOK P C) : CtxOK P (ext C []) := h
theorem ext_cons {P : Program} {C : FuncId → Option Con} {g : FuncId} {c : Con} {l : List (FuncId × Con)} (h : Has P g c) (k : CtxOK P (ext C l)) : CtxOK P (ext C ((g, c) :: l)) := by
  intro f c' hf
  simp only [ext] at hf
  split at hf
  · next hb => have := Nat.eq_of_beq_eq_true hb; subst this; cases hf; exact h
  · exact k f c' hf

section
variable {P : Program} {C : FuncId → Option Con} {sz pins nx id : Nat} {tm : TM} {st : ST} {rs ws : List Nat}

theorem hasK (hC : CtxOK P C) (hmix : P.follows .mixedOrders = true) {f : FuncId} {fn : Func} {c : Code} (hf : P.funcs[f]? = some fn) (hb : fn.body = some c)
    (hn : (fn.name == "runtime.NumGoroutine") = false) {α β : Type} {F : α → Option β} {enc : α → List V} {ok : α → Prop} {er : β → V}
    (h : ∀ x r, ok x → (F x).bind some = some r → (enc x).length ≤ fn.ntmps ∧ awp P C fn.ntmps 0 c (endW P fn (er r)) (startT (enc x)) [] 0) : Has P f (conK F enc ok er) :=
  ⟨soundW_of_awp (con := conK F enc ok er) hC hmix hf hb fun x hx => h x.1 x.2 hx.2 (by show (F x.1).bind some = _; rw [show F x.1 = some x.2 from hx.1]; rfl), enters_ok hf hn (by simp [hb])⟩
theorem g_hcall {α β : Type} {F : α → Option β} {enc : α → List V} {ok : α → Prop} {er : β → V} {avs : List V} {K : V → ST → Prop} {x : α} {y : β} (hy : F x = some y) (ha : LeVs avs (enc x)) (hok : ok x)
    (h : (RM.retF (er y)).go st K) : (RM.exi (conK F enc ok er).α (fun z => LeVs avs ((conK F enc ok er).enc z) ∧ (conK F enc ok er).ok z) (fun z => RM.retF ((conK F enc ok er).res z))).go st K := ⟨(x, y), ⟨ha, hy, hok⟩, h⟩
theorem g_hcallT {α β : Type} {F : α → Option β} {enc : α → List V} {ok : α → Prop} {er : β → V} {avs : List V} {K : V → ST → List Nat → List Nat → Prop} {x : α} {y : β} (hy : F x = some y) (ha : LeVs avs (enc x)) (hok : ok x)
    (h : (RM.retF (er y)).goT st rs ws K) : (RM.exi (conK F enc ok er).α (fun z => LeVs avs ((conK F enc ok er).enc z) ∧ (conK F enc ok er).ok z) (fun z => RM.retF ((conK F enc ok er).res z))).goT st rs ws K := ⟨(x, y), ⟨ha, hy, hok⟩, h⟩
theorem map_plain {d : Nat} : ∀ (l : List V) (k : List V → RM), l.all plain = true → mapRM (fz (d + 1)) l k = k l
  | [], k, _ => rfl
  | c :: l, k, h => by
    simp only [List.all_cons, Bool.and_eq_true] at h
    have e : ∀ k, fz (d + 1) c k = k c := by
      intro k
      have h1 := h.1
      clear h
      cases c <;> first | rfl | (simp [plain] at h1)
    rw [mapRM, e, map_plain l _ h.2]
theorem go_map {d : Nat} {caps l : List V} {k : List V → RM} {K : V → ST → Prop} (h : caps.all plain = true) (hl : l = caps) (hk : (k caps).go st K) : (mapRM (fz (d + 1)) l k).go st K := by
  subst hl
  rw [map_plain l k h]; exact hk
theorem goT_map {d : Nat} {caps l : List V} {k : List V → RM} {K : V → ST → List Nat → List Nat → Prop} (h : caps.all plain = true) (hl : l = caps) (hk : (k caps).goT st rs ws K) : (mapRM (fz (d + 1)) l k).goT st rs ws K := by
  subst hl
  rw [map_plain l k h]; exact hk

theorem hasF (hC : CtxOK P C) (hmix : P.follows .mixedOrders = true) {f : FuncId} {fn : Func} {c : Code} (hf : P.funcs[f]? = some fn) (hb : fn.body = some c)
    (hn : (fn.name == "runtime.NumGoroutine") = false) {α β : Type} {F : α → Option β} {enc : α → List V} {er : β → V}
    (h : ∀ x r, (F x).bind some = some r → (enc x).length ≤ fn.ntmps ∧ awp P C fn.ntmps 0 c (endW P fn (er r)) (startT (enc x)) [] 0) : Has P f (conF F enc er) :=
  ⟨soundW_of_awp (con := conF F enc er) hC hmix hf hb fun x hx => h x.1 x.2 (by show (F x.1).bind some = _; rw [show F x.1 = some x.2 from hx]; rfl), enters_ok hf hn (by simp [hb])⟩

theorem hasFR (hC : CtxOK P C) (hmix : P.follows .mixedOrders = true) {f : FuncId} {fn : Func} {c : Code} (hf : P.funcs[f]? = some fn) (hb : fn.body = some c)
    (hn : (fn.name == "runtime.NumGoroutine") = false) {α β : Type} {F : α → Option β} {enc : α → List V} {er : β → V} {ty : TypeId} {size : Nat}
    (h : ∀ x r, (F x).bind some = some r → (enc x).length ≤ fn.ntmps ∧ awp P C fn.ntmps 0 c (endR fn ty size (er r)) (startT (enc x)) [] 0) : Has P f (conR F enc er ty size) :=
  ⟨soundF_of_awp (con := conR F enc er ty size) hC hmix hf hb fun x hx => h x.1 x.2 (by show (F x.1).bind some = _; rw [show F x.1 = some x.2 from hx]; rfl), enters_ok hf hn (by simp [hb])⟩

theorem g_callR {α β : Type} {F : α → Option β} {enc : α → List V} {er : β → V} {ty : TypeId} {size : Nat} {avs : List V} {K : V → ST → Prop} {x : α} {y : β} (hy : F x = some y) (ha : LeVs avs (enc x))
    (h : (freshR id ty size (er y)).go st K) : (RM.exi (conR F enc er ty size).α (fun z => LeVs avs ((conR F enc er ty size).enc z) ∧ (conR F enc er ty size).ok z) (fun z => freshR id ty size ((conR F enc er ty size).res z))).go st K := ⟨(x, y), ⟨ha, hy⟩, h⟩

theorem g_callRT {α β : Type} {F : α → Option β} {enc : α → List V} {er : β → V} {ty : TypeId} {size : Nat} {avs : List V} {K : V → ST → List Nat → List Nat → Prop} {x : α} {y : β} (hy : F x = some y) (ha : LeVs avs (enc x))
    (h : (freshR id ty size (er y)).goT st rs ws K) : (RM.exi (conR F enc er ty size).α (fun z => LeVs avs ((conR F enc er ty size).enc z) ∧ (conR F enc er ty size).ok z) (fun z => freshR id ty size ((conR F enc er ty size).res z))).goT st rs ws K := ⟨(x, y), ⟨ha, hy⟩, h⟩

theorem has_lend {f : FuncId} {α β : Type} {F : α → Option β} {enc : α → List V} {er : β → V} (h : Has P f (conF F enc er)) (hf : ∀ r F H v F2 H2, RC F H (er r) v → RC F2 H2 (er r) v) : Has P f (conL' F enc er) :=
  ⟨⟨h.1, fun x F H v F2 H2 hc => hf _ _ _ _ _ _ hc⟩, h.2⟩
theorem g_callL {α β : Type} {F : α → Option β} {enc : α → List V} {er : β → V} {avs : List V} {K : V → ST → Prop} {x : α} {y : β} (hy : F x = some y) (ha : LeVs avs (enc x))
    (h : (RM.retF (er y)).go st K) : (RM.exi (conL' F enc er).α (fun z => LeVs avs ((conL' F enc er).enc z) ∧ (conL' F enc er).ok z) (fun z => RM.retF ((conL' F enc er).res z))).go st K := ⟨(x, y), ⟨ha, hy⟩, h⟩
theorem g_callLT {α β : Type} {F : α → Option β} {enc : α → List V} {er : β → V} {avs : List V} {K : V → ST → List Nat → List Nat → Prop} {x : α} {y : β} (hy : F x = some y) (ha : LeVs avs (enc x))
    (h : (RM.retF (er y)).goT st rs ws K) : (RM.exi (conL' F enc er).α (fun z => LeVs avs ((conL' F enc er).enc z) ∧ (conL' F enc er).ok z) (fun z => RM.retF ((conL' F enc er).res z))).goT st rs ws K := ⟨(x, y), ⟨ha, hy⟩, h⟩
theorem g_callRL {α β : Type} {F : α → Option β} {enc : α → List V} {er : β → V} {ty : TypeId} {size : Nat} {avs : List V} {K : V → ST → Prop} {x : α} {y : β} (hy : F x = some y) (ha : LeVs avs (enc x))
    (h : (freshR id ty size (er y)).go st K) : (RM.exi (conRL F enc er ty size).α (fun z => LeVs avs ((conRL F enc er ty size).enc z) ∧ (conRL F enc er ty size).ok z) (fun z => freshR id ty size ((conRL F enc er ty size).res z))).go st K := ⟨(x, y), ⟨ha, hy⟩, h⟩

theorem g_callRLT {α β : Type} {F : α → Option β} {enc : α → List V} {er : β → V} {ty : TypeId} {size : Nat} {avs : List V} {K : V → ST → List Nat → List Nat → Prop} {x : α} {y : β} (hy : F x = some y) (ha : LeVs avs (enc x))
    (h : (freshR id ty size (er y)).goT st rs ws K) : (RM.exi (conRL F enc er ty size).α (fun z => LeVs avs ((conRL F enc er ty size).enc z) ∧ (conRL F enc er ty size).ok z) (fun z => freshR id ty size ((conRL F enc er ty size).res z))).goT st rs ws K := ⟨(x, y), ⟨ha, hy⟩, h⟩

theorem g_call {α β : Type} {F : α → Option β} {enc : α → List V} {er : β → V} {avs : List V} {K : V → ST → Prop} {x : α} {y : β} (hy : F x = some y) (ha : LeVs avs (enc x))
    (h : (RM.retF (er y)).go st K) : (RM.exi (conF F enc er).α (fun z => LeVs avs ((conF F enc er).enc z) ∧ (conF F enc er).ok z) (fun z => RM.retF ((conF F enc er).res z))).go st K := ⟨(x, y), ⟨ha, hy⟩, h⟩
theorem g_callT {α β : Type} {F : α → Option β} {enc : α → List V} {er : β → V} {avs : List V} {K : V → ST → List Nat → List Nat → Prop} {x : α} {y : β} (hy : F x = some y) (ha : LeVs avs (enc x))
    (h : (RM.retF (er y)).goT st rs ws K) : (RM.exi (conF F enc er).α (fun z => LeVs avs ((conF F enc er).enc z) ∧ (conF F enc er).ok z) (fun z => RM.retF ((conF F enc er).res z))).goT st rs ws K := ⟨(x, y), ⟨ha, hy⟩, h⟩

/-! tests whose answer is known -/
theorem ops_takeH {all : List Oper} {o : Oper} {os : List Oper} {K : TM → ST → Prop} {j d : Nat} {want b : Bool} (hb : b = want) (hd : okDst sz o.dst = true) (hg : o.guard = some (j, want)) (hj : (all[j]?).bind (·.dst) = some d) (hl : (look tm d).getD .top = .v (.bool b))
    (h : (opR P C id (ev tm) o.op).go st fun v st' => evOps P C sz all os (id + 1) (putT tm o.dst v) st' K) : evOps P C sz all (o :: os) id tm st K := ops_take hd hg hj (by rw [hl, hb]) h
theorem ops_skipH {all : List Oper} {o : Oper} {os : List Oper} {K : TM → ST → Prop} {j d : Nat} {want b : Bool} (hb : b = !want) (hd : okDst sz o.dst = true) (hg : o.guard = some (j, want)) (hj : (all[j]?).bind (·.dst) = some d) (hl : (look tm d).getD .top = .v (.bool b))
    (h : evOps P C sz all os (id + 1) (putT tm o.dst vU) st K) : evOps P C sz all (o :: os) id tm st K := ops_skip hd hg hj (by rw [hl, hb]) h
theorem st_condTH {x : Operand} {a b : Code} {p : Bool} {Q : AX → TM → ST → Nat → Prop} (hp : p = true) (hc : ev tm x = .v (.bool p)) (h1 : awp P C sz pins a Q tm st nx) : awp P C sz pins (.cond x a b) Q tm st nx := st_condT (by rw [hc, hp]) h1
theorem st_condFH {x : Operand} {a b : Code} {p : Bool} {Q : AX → TM → ST → Nat → Prop} (hp : p = false) (hc : ev tm x = .v (.bool p)) (h1 : awp P C sz pins b Q tm st nx) : awp P C sz pins (.cond x a b) Q tm st nx := st_condF (by rw [hc, hp]) h1
variable {ops : Array Oper} {o : Oper} {os : List Oper} {i : Nat} {prev : List (Nat × Oper × List Nat × List Nat)}
theorem d_takeH {K : TM → ST → Prop} {j d : Nat} {want b : Bool} (hb : b = want) (hd : okDst sz o.dst = true) (hg : o.guard = some (j, want)) (hj : (ops.toList[j]?).bind (·.dst) = some d) (hl : (look tm d).getD .top = .v (.bool b))
    (h : (opR P C (nx + i) (ev tm) o.op).goT st [] [] (dK P C sz ops nx o os i tm prev K)) : evOpsD P C sz ops nx (o :: os) i tm st prev K := d_take hd hg hj (by rw [hl, hb]) h
theorem d_skipH {K : TM → ST → Prop} {j d : Nat} {want b : Bool} (hb : b = !want) (hd : okDst sz o.dst = true) (hg : o.guard = some (j, want)) (hj : (ops.toList[j]?).bind (·.dst) = some d) (hl : (look tm d).getD .top = .v (.bool b)) (hi : indepB ops o [] [] prev = true)
    (h : evOpsD P C sz ops nx os (i + 1) (putT tm o.dst vU) st ((i, o, [], []) :: prev) K) : evOpsD P C sz ops nx (o :: os) i tm st prev K := d_skip hd hg hj (by rw [hl, hb]) hi h

/-! loops -/
/-- A loop: its rounds over data, and the states at its head. -/
structure LoopD (S E Γ : Type) where
  step : S → Option (S ⊕ E)
  at_ : S → Γ → LS

section loops
variable {S E R Γ : Type}
abbrev LoopA (step : S → Option (S ⊕ E)) (K : E → Option R) (r : R) (Γ : Type) := { x : Nat × S × Γ // (loopN step x.1 x.2.1).bind K = some r }
theorem st_loopF {L : LoopD S E Γ} {K : E → Option R} {r : R} {s0 : S} {c : Code} {Q : AX → TM → ST → Nat → Prop} (hF : (loopC L.step s0).bind K = some r) (g0 : Γ) (ren : List (Nat × Nat)) (hs : Sub pins ren (L.at_ s0 g0).tm (L.at_ s0 g0).st (L.at_ s0 g0).nx tm st)
    (h : ∀ (n : Nat) (s : S) (g : Γ) (x : LoopA L.step K r Γ), x.1.1 = n + 1 → (L.step s).bind (nextF L.step K n) = some r → awp P C sz pins c (loopK pins (fun y : LoopA L.step K r Γ => L.at_ y.1.2.1 y.1.2.2) (fun y => y.1.1) x Q) (L.at_ s g).tm (L.at_ s g).st (L.at_ s g).nx) : awp P C sz pins (.loop c) Q tm st nx := by
  obtain ⟨e, he, hk⟩ : ∃ e, loopC L.step s0 = some e ∧ K e = some r := by
    cases hl : loopC L.step s0 with
    | none => rw [hl] at hF; cases hF
    | some e => rw [hl] at hF; exact ⟨e, rfl, hF⟩
  obtain ⟨n, hn⟩ := loopC_ex he
  refine st_loop (α := LoopA L.step K r Γ) (mk := fun y => L.at_ y.1.2.1 y.1.2.2) (μ := fun y => y.1.1) ⟨⟨(n, s0, g0), by rw [hn]; exact hk⟩, ren, hs⟩ ?_
  rintro ⟨⟨n, s, g⟩, hx⟩
  cases n with
  | zero => cases hx
  | succ n =>
    refine h n s g ⟨(n + 1, s, g), hx⟩ rfl ?_
    simp only [loopN] at hx
    cases hs : L.step s with
    | none => rw [hs] at hx; cases hx
    | some o =>
      rw [hs] at hx
      cases o with
      | inl s' => exact hx
      | inr e => exact hx
theorem k_loopF {L : LoopD S E Γ} {K : E → Option R} {r : R} {x : LoopA L.step K r Γ} {n : Nat} {Q : AX → TM → ST → Nat → Prop} {s' : S} (hF : nextF L.step K n (.inl s') = some r) (hx : x.1.1 = n + 1) (g' : Γ) (ren : List (Nat × Nat))
    (hs : Sub pins ren (L.at_ s' g').tm (L.at_ s' g').st (L.at_ s' g').nx tm st) : loopK pins (fun y : LoopA L.step K r Γ => L.at_ y.1.2.1 y.1.2.2) (fun y => y.1.1) x Q .normal tm st nx :=
  k_loop (⟨(n, s', g'), hF⟩ : LoopA L.step K r Γ) ren hs (by show n < x.1.1; omega)
end loops
end

/-! lists -/
/-- An element of a list by its number. -/
def idx? {α : Type} (l : List α) (j : Int) : Option α := if 0 ≤ j then l[j.toNat]? else none
theorem idx?_lt {α : Type} {l : List α} {j : Int} {x : α} (h : idx? l j = some x) : 0 ≤ j ∧ j < l.length ∧ ∃ hj : j.toNat < l.length, l[j.toNat] = x := by
  unfold idx? at h
  split at h
  · obtain ⟨hj, hx⟩ := List.getElem?_eq_some_iff.mp h
    exact ⟨by assumption, by omega, hj, hx⟩
  · cases h
theorem recs_at {α : Type} {enc : α → List V} {s : Nat} (he : ∀ a, (enc a).length = s) {l : List α} {j : Int} {x : α} (h : idx? l j = some x) : ∃ rest, (recs enc l).drop (j.toNat * s) = enc x ++ rest := by
  obtain ⟨_, _, hj, hx⟩ := idx?_lt h
  refine ⟨recs enc (l.drop (j.toNat + 1)), ?_⟩
  rw [recs_drop he, List.drop_eq_getElem_cons hj, hx]
  rfl

section
variable {st : ST} {rs ws : List Nat}
/-- The address of an element. -/
theorem o_ia {α : Type} {enc : α → List V} {s : Nat} {l : List α} {j : Int} {a : α} {d : Decidable (0 ≤ j ∧ j < (l.length : Int) ∧ l.length * s = (recs enc l).length ∧ 0 < s)} {K : V → ST → Prop} (h : idx? l j = some a) (he : ∀ a, (enc a).length = s) (hs : 0 < s)
    (hk : ∀ rest, (RM.ret (.fptr (enc a ++ rest))).go st K) : (@RM.dec (0 ≤ j ∧ j < (l.length : Int) ∧ l.length * s = (recs enc l).length ∧ 0 < s) (RM.ret (.fptr ((recs enc l).drop (j.toNat * s)))) d).go st K := by
  obtain ⟨h0, h1, _⟩ := idx?_lt h
  obtain ⟨rest, hr⟩ := recs_at he h
  refine ⟨⟨h0, h1, by rw [recs_length he], hs⟩, ?_⟩
  rw [hr]
  exact hk rest
theorem o_iaT {α : Type} {enc : α → List V} {s : Nat} {l : List α} {j : Int} {a : α} {d : Decidable (0 ≤ j ∧ j < (l.length : Int) ∧ l.length * s = (recs enc l).length ∧ 0 < s)} {K : V → ST → List Nat → List Nat → Prop} (h : idx? l j = some a) (he : ∀ a, (enc a).length = s) (hs : 0 < s)
    (hk : ∀ rest, (RM.ret (.fptr (enc a ++ rest))).goT st rs ws K) : (@RM.dec (0 ≤ j ∧ j < (l.length : Int) ∧ l.length * s = (recs enc l).length ∧ 0 < s) (RM.ret (.fptr ((recs enc l).drop (j.toNat * s)))) d).goT st rs ws K := by
  obtain ⟨h0, h1, _⟩ := idx?_lt h
  obtain ⟨rest, hr⟩ := recs_at he h
  refine ⟨⟨h0, h1, by rw [recs_length he], hs⟩, ?_⟩
  rw [hr]
  exact hk rest
end

/-- A divisor. -/
def nz? (b : Int) : Option Unit := if b ≠ 0 then some () else none
theorem nz_ne {b : Int} {u : Unit} (h : nz? b = some u) : b ≠ 0 := by
  unfold nz? at h
  split at h
  · assumption
  · cases h
/-- A part of a list. -/
def slc? {α : Type} (l : List α) (i j : Int) : Option (List α) := if 0 ≤ i ∧ i ≤ j ∧ j ≤ l.length then some ((l.drop i.toNat).take (j.toNat - i.toNat)) else none
theorem recs_take {α : Type} {enc : α → List V} {s : Nat} (he : ∀ a, (enc a).length = s) (l : List α) (k : Nat) : (recs enc l).take (k * s) = recs enc (l.take k) := by
  induction l generalizing k with
  | nil => simp [recs]
  | cons a l ih =>
    cases k with
    | zero => simp [recs]
    | succ k =>
      have e : (k + 1) * s = (enc a).length + k * s := by rw [he, Nat.add_mul]; omega
      rw [show recs enc (a :: l) = enc a ++ recs enc l from rfl, e, List.take_length_add_append, ih]
      rfl
section
variable {st : ST} {rs ws : List Nat}
theorem slc_eq {α : Type} {enc : α → List V} {s : Nat} {l m : List α} {i j : Int} (h : slc? l i j = some m) (he : ∀ a, (enc a).length = s) :
    (0 ≤ i ∧ i ≤ j ∧ j ≤ (l.length : Int) ∧ l.length * s = (recs enc l).length) ∧ ((recs enc l).drop (i.toNat * s)).take ((j.toNat - i.toNat) * s) = recs enc m ∧ j.toNat - i.toNat = m.length := by
  unfold slc? at h
  split at h
  · next hc =>
    cases h
    refine ⟨⟨hc.1, hc.2.1, hc.2.2, (recs_length he l).symm⟩, ?_, ?_⟩
    · rw [recs_drop he, recs_take he]
    · simp; omega
  · cases h
theorem o_slc {α : Type} {enc : α → List V} {s : Nat} {l m : List α} {i j : Int} {d : Decidable (0 ≤ i ∧ i ≤ j ∧ j ≤ (l.length : Int) ∧ l.length * s = (recs enc l).length)} {K : V → ST → Prop} (h : slc? l i j = some m) (he : ∀ a, (enc a).length = s)
    (hk : (RM.ret (.sl (recs enc m) m.length)).go st K) : (@RM.dec (0 ≤ i ∧ i ≤ j ∧ j ≤ (l.length : Int) ∧ l.length * s = (recs enc l).length) (.ret (.sl (((recs enc l).drop (i.toNat * s)).take ((j.toNat - i.toNat) * s)) (j.toNat - i.toNat))) d).go st K := by
  obtain ⟨h1, h2, h3⟩ := slc_eq h he
  rw [h2, h3]
  exact ⟨h1, hk⟩
theorem o_slcT {α : Type} {enc : α → List V} {s : Nat} {l m : List α} {i j : Int} {d : Decidable (0 ≤ i ∧ i ≤ j ∧ j ≤ (l.length : Int) ∧ l.length * s = (recs enc l).length)} {K : V → ST → List Nat → List Nat → Prop} (h : slc? l i j = some m) (he : ∀ a, (enc a).length = s)
    (hk : (RM.ret (.sl (recs enc m) m.length)).goT st rs ws K) : (@RM.dec (0 ≤ i ∧ i ≤ j ∧ j ≤ (l.length : Int) ∧ l.length * s = (recs enc l).length) (.ret (.sl (((recs enc l).drop (i.toNat * s)).take ((j.toNat - i.toNat) * s)) (j.toNat - i.toNat))) d).goT st rs ws K := by
  obtain ⟨h1, h2, h3⟩ := slc_eq h he
  rw [h2, h3]
  exact ⟨h1, hk⟩
end

/-! lists of the call's own -/
/-- A list, and another behind it; by bytes each. -/
def app? {α : Type} (l m : List α) (by_ : Nat) : Option (List α) := if (l.length + m.length) * by_ ≤ 140737488355328 ∧ 0 < by_ then some (l ++ m) else none
def appn? {α : Type} (m : List α) (by_ : Nat) : Option (List α) := if m.length * by_ ≤ 140737488355328 ∧ 0 < by_ ∧ 0 < m.length then some m else none
/-- A new list. -/
def mk? {α : Type} (z : α) (n : Int) (by_ : Nat) : Option (List α) := if 0 ≤ n ∧ n * by_ ≤ 281474976710656 ∧ n ≤ 140737488355328 then some (List.replicate n.toNat z) else none
/-- A list with another element. -/
def set? {α : Type} (l : List α) (j : Int) (x : α) : Option (List α) := if 0 ≤ j ∧ j < l.length then some (l.set j.toNat x) else none

theorem recs_append {α : Type} (enc : α → List V) (l m : List α) : recs enc l ++ recs enc m = recs enc (l ++ m) := by simp [recs]
theorem app_eq {α : Type} {enc : α → List V} {s : Nat} {l m r : List α} {n : Nat} (h : app? l m n = some r) (he : ∀ a, (enc a).length = s) :
    (l.length * s = (recs enc l).length ∧ l.length + m.length ≤ maxLen ∧ (l.length + m.length) * n ≤ 140737488355328) ∧ recs enc l ++ recs enc m = recs enc r ∧ l.length + m.length = r.length := by
  unfold app? at h
  split at h
  · next hc =>
    cases h
    refine ⟨⟨(recs_length he l).symm, ?_, hc.1⟩, recs_append enc l m, by simp⟩
    have h1 : l.length + m.length ≤ (l.length + m.length) * n := Nat.le_mul_of_pos_right _ hc.2
    have h2 : (140737488355328 : Nat) ≤ maxLen := by decide
    omega
  · cases h
theorem appn_eq {α : Type} {enc : α → List V} {s : Nat} {m r : List α} {n : Nat} (h : appn? m n = some r) (he : ∀ a, (enc a).length = s) :
    (m.length ≤ maxLen ∧ m.length * n ≤ 140737488355328 ∧ 0 < m.length) ∧ m = r := by
  unfold appn? at h
  split at h
  · next hc =>
    cases h
    refine ⟨⟨?_, hc.1, hc.2.2⟩, rfl⟩
    have h1 : m.length ≤ m.length * n := Nat.le_mul_of_pos_right _ hc.2.1
    have h2 : (140737488355328 : Nat) ≤ maxLen := by decide
    omega
  · cases h
theorem mk_eq {α : Type} {enc : α → List V} {s : Nat} {z : α} {n : Int} {k : Nat} {r : List α} (h : mk? z n k = some r) (hs : 0 < s) :
    (0 ≤ n ∧ n = n ∧ n * k ≤ 281474976710656 ∧ 0 < s ∧ n ≤ maxLen) ∧ (List.replicate n.toNat (enc z)).flatten = recs enc r ∧ n.toNat = r.length := by
  unfold mk? at h
  split at h
  · next hc =>
    cases h
    refine ⟨⟨hc.1, rfl, hc.2.1, hs, ?_⟩, recs_replicate z _, by simp⟩
    have h2 : (140737488355328 : Int) ≤ maxLen := by decide
    omega
  · cases h
theorem set_eq {α : Type} {enc : α → List V} {s o n : Nat} {l r : List α} {j : Int} {a b : α} {new : List V} (hi : idx? l j = some a) (h : set? l j b = some r) (he : ∀ a, (enc a).length = s) (ho : o + n ≤ s)
    (hn : new.length = n) (hb : (enc a).take o ++ new ++ (enc a).drop (o + n) = enc b) :
    (new.length = n ∧ j.toNat * s + o + n ≤ (recs enc l).length ∧ 0 ≤ j.toNat * s + o) ∧ (recs enc l).take (j.toNat * s + o) ++ new ++ (recs enc l).drop (j.toNat * s + o + n) = recs enc r := by
  obtain ⟨h0, h1, hj, hx⟩ := idx?_lt hi
  unfold set? at h
  rw [if_pos ⟨h0, h1⟩] at h
  cases h
  refine ⟨⟨hn, ?_, Nat.zero_le _⟩, ?_⟩
  · rw [recs_length he]
    have : (j.toNat + 1) * s ≤ l.length * s := Nat.mul_le_mul_right s hj
    rw [Nat.add_mul] at this
    omega
  · rw [← recs_set (s := s) he l j.toNat b hj, ← hb]
    obtain ⟨rest, hr⟩ := recs_at he hi
    have hla : (enc a).length = s := he a
    have hl : (recs enc l).length = l.length * s := recs_length he l
    have hle : j.toNat * s + s ≤ (recs enc l).length := by
      rw [hl]
      have : (j.toNat + 1) * s ≤ l.length * s := Nat.mul_le_mul_right s hj
      rw [Nat.add_mul] at this
      omega
    have e1 : (recs enc l).take (j.toNat * s + o) = (recs enc l).take (j.toNat * s) ++ (enc a).take o := by
      rw [List.take_add, hr, List.take_append_of_le_length (by omega)]
    have h3 : (recs enc l).drop (j.toNat * s + s) = rest := by
      rw [← List.drop_drop, hr, List.drop_append_of_le_length (by omega), ← hla, List.drop_length]
      rfl
    have e2 : (recs enc l).drop (j.toNat * s + o + n) = (enc a).drop (o + n) ++ (recs enc l).drop (j.toNat * s + s) := by
      rw [h3, show j.toNat * s + o + n = j.toNat * s + (o + n) by omega, ← List.drop_drop, hr, List.drop_append_of_le_length (by omega)]
    rw [e1, e2]
    simp [List.append_assoc]

section
variable {st : ST} {rs ws : List Nat}
theorem o_app {α : Type} {enc : α → List V} {s n : Nat} {l m r : List α} {b id : Nat} {e : TypeId} {p : Nat} {d : Decidable (l.length * s = (recs enc l).length ∧ l.length + m.length ≤ maxLen ∧ (l.length + m.length) * n ≤ 140737488355328)} {K : V → ST → Prop} (h : app? l m n = some r) (he : ∀ a, (enc a).length = s)
    (hk : (RM.ret (.osl id r.length)).go ((id, .row e s (recs enc r) p) :: (b, .dead) :: st) K) : (@RM.dec (l.length * s = (recs enc l).length ∧ l.length + m.length ≤ maxLen ∧ (l.length + m.length) * n ≤ 140737488355328) (.put b .dead (.put id (.row e s (recs enc l ++ recs enc m) p) (.ret (.osl id (l.length + m.length))))) d).go st K := by
  obtain ⟨h1, h2, h3⟩ := app_eq h he
  rw [← h2, ← h3] at hk
  exact ⟨h1, hk⟩
theorem o_appT {α : Type} {enc : α → List V} {s n : Nat} {l m r : List α} {b id : Nat} {e : TypeId} {p : Nat} {d : Decidable (l.length * s = (recs enc l).length ∧ l.length + m.length ≤ maxLen ∧ (l.length + m.length) * n ≤ 140737488355328)} {K : V → ST → List Nat → List Nat → Prop} (h : app? l m n = some r) (he : ∀ a, (enc a).length = s)
    (hk : (RM.ret (.osl id r.length)).goT ((id, .row e s (recs enc r) p) :: (b, .dead) :: st) rs (id :: b :: ws) K) : (@RM.dec (l.length * s = (recs enc l).length ∧ l.length + m.length ≤ maxLen ∧ (l.length + m.length) * n ≤ 140737488355328) (.put b .dead (.put id (.row e s (recs enc l ++ recs enc m) p) (.ret (.osl id (l.length + m.length))))) d).goT st rs ws K := by
  obtain ⟨h1, h2, h3⟩ := app_eq h he
  rw [← h2, ← h3] at hk
  exact ⟨h1, hk⟩
theorem o_appn {α : Type} {enc : α → List V} {s n : Nat} {m r : List α} {id : Nat} {e : TypeId} {d : Decidable (m.length ≤ maxLen ∧ m.length * n ≤ 140737488355328 ∧ 0 < m.length)} {K : V → ST → Prop} (h : appn? m n = some r) (he : ∀ a, (enc a).length = s)
    (hk : (RM.ret (.osl id r.length)).go ((id, .row e s (recs enc r) 0) :: st) K) : (@RM.dec (m.length ≤ maxLen ∧ m.length * n ≤ 140737488355328 ∧ 0 < m.length) (.put id (.row e s (recs enc m) 0) (.ret (.osl id m.length))) d).go st K := by
  obtain ⟨h1, rfl⟩ := appn_eq h he
  exact ⟨h1, hk⟩
theorem o_appnT {α : Type} {enc : α → List V} {s n : Nat} {m r : List α} {id : Nat} {e : TypeId} {d : Decidable (m.length ≤ maxLen ∧ m.length * n ≤ 140737488355328 ∧ 0 < m.length)} {K : V → ST → List Nat → List Nat → Prop} (h : appn? m n = some r) (he : ∀ a, (enc a).length = s)
    (hk : (RM.ret (.osl id r.length)).goT ((id, .row e s (recs enc r) 0) :: st) rs (id :: ws) K) : (@RM.dec (m.length ≤ maxLen ∧ m.length * n ≤ 140737488355328 ∧ 0 < m.length) (.put id (.row e s (recs enc m) 0) (.ret (.osl id m.length))) d).goT st rs ws K := by
  obtain ⟨h1, rfl⟩ := appn_eq h he
  exact ⟨h1, hk⟩
theorem o_mk {α : Type} {enc : α → List V} {s k : Nat} {z : α} {n : Int} {r : List α} {id : Nat} {e : TypeId} {zc : List V} {d : Decidable (0 ≤ n ∧ n = n ∧ n * k ≤ 281474976710656 ∧ 0 < s ∧ n ≤ maxLen)} {K : V → ST → Prop} (h : mk? z n k = some r) (hs : 0 < s) (hz : zc = enc z)
    (hk : (RM.ret (.osl id r.length)).go ((id, .row e s (recs enc r) 0) :: st) K) : (@RM.dec (0 ≤ n ∧ n = n ∧ n * k ≤ 281474976710656 ∧ 0 < s ∧ n ≤ maxLen) (.put id (.row e s (List.replicate n.toNat zc).flatten 0) (.ret (.osl id n.toNat))) d).go st K := by
  obtain ⟨h1, h2, h3⟩ := mk_eq (enc := enc) (s := s) h hs
  subst hz
  rw [h2, h3]
  exact ⟨h1, hk⟩
theorem o_mkT {α : Type} {enc : α → List V} {s k : Nat} {z : α} {n : Int} {r : List α} {id : Nat} {e : TypeId} {zc : List V} {d : Decidable (0 ≤ n ∧ n = n ∧ n * k ≤ 281474976710656 ∧ 0 < s ∧ n ≤ maxLen)} {K : V → ST → List Nat → List Nat → Prop} (h : mk? z n k = some r) (hs : 0 < s) (hz : zc = enc z)
    (hk : (RM.ret (.osl id r.length)).goT ((id, .row e s (recs enc r) 0) :: st) rs (id :: ws) K) : (@RM.dec (0 ≤ n ∧ n = n ∧ n * k ≤ 281474976710656 ∧ 0 < s ∧ n ≤ maxLen) (.put id (.row e s (List.replicate n.toNat zc).flatten 0) (.ret (.osl id n.toNat))) d).goT st rs ws K := by
  obtain ⟨h1, h2, h3⟩ := mk_eq (enc := enc) (s := s) h hs
  subst hz
  rw [h2, h3]
  exact ⟨h1, hk⟩
theorem oidx_ok {α : Type} {l : List α} {j : Int} {a : α} {s : Nat} (h : idx? l j = some a) (hs : 0 < s) : 0 ≤ j ∧ j < (l.length : Int) ∧ 0 < s := by
  obtain ⟨h0, h1, _⟩ := idx?_lt h
  exact ⟨h0, h1, hs⟩
theorem own_at {α : Type} {enc : α → List V} {s o n : Nat} {l : List α} {j : Int} {a : α} (h : idx? l j = some a) (he : ∀ a, (enc a).length = s) (ho : o + n ≤ s) :
    j.toNat * s + o + n ≤ (recs enc l).length ∧ ((recs enc l).drop (j.toNat * s + o)).take n = ((enc a).drop o).take n := by
  obtain ⟨h0, h1, hj, hx⟩ := idx?_lt h
  obtain ⟨rest, hr⟩ := recs_at he h
  have hla := he a
  constructor
  · rw [recs_length he]
    have : (j.toNat + 1) * s ≤ l.length * s := Nat.mul_le_mul_right s hj
    rw [Nat.add_mul] at this
    omega
  · rw [← List.drop_drop, hr, List.drop_append_of_le_length (by omega), List.take_append_of_le_length (by simp; omega)]
/-- A record, or a part of one, out of an own list. -/
theorem o_ldA {α : Type} {enc : α → List V} {s n : Nat} {l : List α} {j : Int} {a : α} {d : Decidable (j.toNat * s + n ≤ (recs enc l).length)} {K : V → ST → Prop} (h : idx? l j = some a) (he : ∀ a, (enc a).length = s) (ho : 0 + n ≤ s)
    (hk : (RM.retF (.agg (((enc a).drop 0).take n))).go st K) : (@RM.dec (j.toNat * s + n ≤ (recs enc l).length) (RM.retF (.agg (((recs enc l).drop (j.toNat * s)).take n))) d).go st K := by
  obtain ⟨h1, h2⟩ := own_at (o := 0) h he ho
  rw [Nat.add_zero] at h1 h2
  rw [h2]; exact ⟨h1, hk⟩
theorem o_ldB {α : Type} {enc : α → List V} {s o n : Nat} {l : List α} {j : Int} {a : α} {d : Decidable (j.toNat * s + o + n ≤ (recs enc l).length)} {K : V → ST → Prop} (h : idx? l j = some a) (he : ∀ a, (enc a).length = s) (ho : o + n ≤ s)
    (hk : (RM.retF (.agg (((enc a).drop o).take n))).go st K) : (@RM.dec (j.toNat * s + o + n ≤ (recs enc l).length) (RM.retF (.agg (((recs enc l).drop (j.toNat * s + o)).take n))) d).go st K := by
  obtain ⟨h1, h2⟩ := own_at h he ho
  rw [h2]; exact ⟨h1, hk⟩
theorem own_one {α : Type} {enc : α → List V} {s o : Nat} {l : List α} {j : Int} {a : α} (h : idx? l j = some a) (he : ∀ a, (enc a).length = s) (ho : o + 1 ≤ s) :
    j.toNat * s + o < (recs enc l).length ∧ ((recs enc l)[j.toNat * s + o]?).getD .top = ((enc a)[o]?).getD .top := by
  obtain ⟨h1, h2⟩ := own_at (o := o) (n := 1) h he ho
  refine ⟨by omega, ?_⟩
  have := congrArg (fun x => x[0]?) h2
  simp only [List.getElem?_take, List.getElem?_drop, if_pos (show 0 < 1 by decide), Nat.add_zero] at this
  rw [this]
theorem o_ldC {α : Type} {enc : α → List V} {s : Nat} {l : List α} {j : Int} {a : α} {d : Decidable (j.toNat * s < (recs enc l).length)} {K : V → ST → Prop} (h : idx? l j = some a) (he : ∀ a, (enc a).length = s) (ho : 0 + 1 ≤ s)
    (hk : (RM.retF (((enc a)[0]?).getD .top)).go st K) : (@RM.dec (j.toNat * s < (recs enc l).length) (RM.retF (((recs enc l)[j.toNat * s]?).getD .top)) d).go st K := by
  obtain ⟨h1, h2⟩ := own_one (o := 0) h he ho
  rw [Nat.add_zero] at h1 h2
  rw [h2]; exact ⟨h1, hk⟩
theorem o_ldD {α : Type} {enc : α → List V} {s o : Nat} {l : List α} {j : Int} {a : α} {d : Decidable (j.toNat * s + o < (recs enc l).length)} {K : V → ST → Prop} (h : idx? l j = some a) (he : ∀ a, (enc a).length = s) (ho : o + 1 ≤ s)
    (hk : (RM.retF (((enc a)[o]?).getD .top)).go st K) : (@RM.dec (j.toNat * s + o < (recs enc l).length) (RM.retF (((recs enc l)[j.toNat * s + o]?).getD .top)) d).go st K := by
  obtain ⟨h1, h2⟩ := own_one h he ho
  rw [h2]; exact ⟨h1, hk⟩
theorem o_ldAT {α : Type} {enc : α → List V} {s n : Nat} {l : List α} {j : Int} {a : α} {d : Decidable (j.toNat * s + n ≤ (recs enc l).length)} {K : V → ST → List Nat → List Nat → Prop} (h : idx? l j = some a) (he : ∀ a, (enc a).length = s) (ho : 0 + n ≤ s)
    (hk : (RM.retF (.agg (((enc a).drop 0).take n))).goT st rs ws K) : (@RM.dec (j.toNat * s + n ≤ (recs enc l).length) (RM.retF (.agg (((recs enc l).drop (j.toNat * s)).take n))) d).goT st rs ws K := by
  obtain ⟨h1, h2⟩ := own_at (o := 0) h he ho
  rw [Nat.add_zero] at h1 h2
  rw [h2]; exact ⟨h1, hk⟩
theorem o_ldBT {α : Type} {enc : α → List V} {s o n : Nat} {l : List α} {j : Int} {a : α} {d : Decidable (j.toNat * s + o + n ≤ (recs enc l).length)} {K : V → ST → List Nat → List Nat → Prop} (h : idx? l j = some a) (he : ∀ a, (enc a).length = s) (ho : o + n ≤ s)
    (hk : (RM.retF (.agg (((enc a).drop o).take n))).goT st rs ws K) : (@RM.dec (j.toNat * s + o + n ≤ (recs enc l).length) (RM.retF (.agg (((recs enc l).drop (j.toNat * s + o)).take n))) d).goT st rs ws K := by
  obtain ⟨h1, h2⟩ := own_at h he ho
  rw [h2]; exact ⟨h1, hk⟩
theorem o_ldCT {α : Type} {enc : α → List V} {s : Nat} {l : List α} {j : Int} {a : α} {d : Decidable (j.toNat * s < (recs enc l).length)} {K : V → ST → List Nat → List Nat → Prop} (h : idx? l j = some a) (he : ∀ a, (enc a).length = s) (ho : 0 + 1 ≤ s)
    (hk : (RM.retF (((enc a)[0]?).getD .top)).goT st rs ws K) : (@RM.dec (j.toNat * s < (recs enc l).length) (RM.retF (((recs enc l)[j.toNat * s]?).getD .top)) d).goT st rs ws K := by
  obtain ⟨h1, h2⟩ := own_one (o := 0) h he ho
  rw [Nat.add_zero] at h1 h2
  rw [h2]; exact ⟨h1, hk⟩
theorem o_ldDT {α : Type} {enc : α → List V} {s o : Nat} {l : List α} {j : Int} {a : α} {d : Decidable (j.toNat * s + o < (recs enc l).length)} {K : V → ST → List Nat → List Nat → Prop} (h : idx? l j = some a) (he : ∀ a, (enc a).length = s) (ho : o + 1 ≤ s)
    (hk : (RM.retF (((enc a)[o]?).getD .top)).goT st rs ws K) : (@RM.dec (j.toNat * s + o < (recs enc l).length) (RM.retF (((recs enc l)[j.toNat * s + o]?).getD .top)) d).goT st rs ws K := by
  obtain ⟨h1, h2⟩ := own_one h he ho
  rw [h2]; exact ⟨h1, hk⟩
/-- An element, or a part of one, is written. -/
theorem o_stA {α : Type} {enc : α → List V} {s n : Nat} {l r : List α} {j : Int} {a x : α} {new : List V} {b : Nat} {e : TypeId} {d : Decidable (new.length = n ∧ j.toNat * s + n ≤ (recs enc l).length ∧ 0 ≤ j.toNat * s)} {K : V → ST → Prop} (hi : idx? l j = some a) (h : set? l j x = some r) (he : ∀ a, (enc a).length = s) (ho : 0 + n ≤ s)
    (hn : new.length = n) (hb : (enc a).take 0 ++ new ++ (enc a).drop (0 + n) = enc x)
    (hk : (RM.ret .top).go ((b, .row e s (recs enc r) 0) :: st) K) : (@RM.dec (new.length = n ∧ j.toNat * s + n ≤ (recs enc l).length ∧ 0 ≤ j.toNat * s) (.put b (.row e s ((recs enc l).take (j.toNat * s) ++ new ++ (recs enc l).drop (j.toNat * s + n)) 0) (.ret .top)) d).go st K := by
  obtain ⟨h1, h2⟩ := set_eq (o := 0) hi h he ho hn hb
  simp only [Nat.add_zero] at h1 h2
  rw [h2]; exact ⟨h1, hk⟩
theorem o_stB {α : Type} {enc : α → List V} {s o n : Nat} {l r : List α} {j : Int} {a x : α} {new : List V} {b : Nat} {e : TypeId} {d : Decidable (new.length = n ∧ j.toNat * s + o + n ≤ (recs enc l).length ∧ 0 ≤ j.toNat * s + o)} {K : V → ST → Prop} (hi : idx? l j = some a) (h : set? l j x = some r) (he : ∀ a, (enc a).length = s) (ho : o + n ≤ s)
    (hn : new.length = n) (hb : (enc a).take o ++ new ++ (enc a).drop (o + n) = enc x)
    (hk : (RM.ret .top).go ((b, .row e s (recs enc r) 0) :: st) K) : (@RM.dec (new.length = n ∧ j.toNat * s + o + n ≤ (recs enc l).length ∧ 0 ≤ j.toNat * s + o) (.put b (.row e s ((recs enc l).take (j.toNat * s + o) ++ new ++ (recs enc l).drop (j.toNat * s + o + n)) 0) (.ret .top)) d).go st K := by
  obtain ⟨h1, h2⟩ := set_eq hi h he ho hn hb
  rw [h2]; exact ⟨h1, hk⟩
theorem o_stAT {α : Type} {enc : α → List V} {s n : Nat} {l r : List α} {j : Int} {a x : α} {new : List V} {b : Nat} {e : TypeId} {d : Decidable (new.length = n ∧ j.toNat * s + n ≤ (recs enc l).length ∧ 0 ≤ j.toNat * s)} {K : V → ST → List Nat → List Nat → Prop} (hi : idx? l j = some a) (h : set? l j x = some r) (he : ∀ a, (enc a).length = s) (ho : 0 + n ≤ s)
    (hn : new.length = n) (hb : (enc a).take 0 ++ new ++ (enc a).drop (0 + n) = enc x)
    (hk : (RM.ret .top).goT ((b, .row e s (recs enc r) 0) :: st) rs (b :: ws) K) : (@RM.dec (new.length = n ∧ j.toNat * s + n ≤ (recs enc l).length ∧ 0 ≤ j.toNat * s) (.put b (.row e s ((recs enc l).take (j.toNat * s) ++ new ++ (recs enc l).drop (j.toNat * s + n)) 0) (.ret .top)) d).goT st rs ws K := by
  obtain ⟨h1, h2⟩ := set_eq (o := 0) hi h he ho hn hb
  simp only [Nat.add_zero] at h1 h2
  rw [h2]; exact ⟨h1, hk⟩
end

/-! recursion -/
/-- Calls within calls, fewer than n. -/
def recN {α β : Type} (B : (α → Option β) → α → Option β) : Nat → α → Option β
  | 0, _ => none
  | n + 1, x => B (recN B n) x
open Classical in
/-- A function that calls itself, as deep as it needs. -/
noncomputable def fixC {α β : Type} (B : (α → Option β) → α → Option β) (x : α) : Option β :=
  if h : ∃ n e, recN B n x = some e then some h.choose_spec.choose else none
theorem fixC_ex {α β : Type} {B : (α → Option β) → α → Option β} {x : α} {y : β} (h : fixC B x = some y) : ∃ n, recN B n x = some y := by
  unfold fixC at h
  split at h
  · next hx => obtain rfl := Option.some.inj h; exact ⟨_, hx.choose_spec.choose_spec⟩
  · cases h
theorem fixC_of {α β : Type} {B : (α → Option β) → α → Option β} {x : α} {y : β} {n : Nat} (h : recN B n x = some y) (hu : ∀ m z, recN B m x = some z → z = y) : fixC B x = some y := by
  have hx : ∃ n e, recN B n x = some e := ⟨n, y, h⟩
  unfold fixC
  rw [dif_pos hx, hu _ _ hx.choose_spec.choose_spec]
theorem has_fix {P : Program} {f : FuncId} {α β : Type} {B : (α → Option β) → α → Option β} {enc : α → List V} {er : β → V} (h : ∀ n, Has P f (conF (recN B n) enc er)) : Has P f (conF (fixC B) enc er) := by
  refine ⟨?_, (h 0).2⟩
  intro x
  rcases x with ⟨a, r⟩
  intro F w vs hF hv hok
  obtain ⟨n, hn⟩ := fixC_ex hok
  exact (h n).1 (a, r) F w vs hF hv hn

/-- Elements that are no records. -/
def eI (k : IntKind) (n : Int) : List V := [.v (.int k n)]
def eB (b : Bool) : List V := [.v (.bool b)]
def eS {α : Type} (enc : α → List V) (l : List α) : List V := [.sl (recs enc l) l.length]

theorem e_some {A R : Type} {a : A} {J : A → Option R} {r : R} (h : (some a).bind J = some r) : J a = some r := h
theorem e_exit {S E R : Type} {step : S → Option (S ⊕ E)} {K : E → Option R} {n : Nat} {e : E} {r : R} (h : (some (Sum.inr e : S ⊕ E)).bind (nextF step K n) = some r) : K e = some r := h
end Go.Ev
/- Steps by themselves. -/
set_option linter.unusedVariables false
namespace Go.Ev
theorem fz_len {α : Type} {enc : α → List V} {s : Nat} (he : ∀ a, (enc a).length = s) (l : List α) : l.length * s = (recs enc l).length := (recs_length he l).symm
theorem set_len {α : Type} {l l' : List α} {j : Int} {x : α} (h : set? l j x = some l') : l'.length = l.length := by
  unfold set? at h
  split at h
  · cases h; simp
  · cases h
theorem lev_len {cs0 : List V} {n m : Nat} (h : n = m) : LeV (.sl cs0 n) (.sl cs0 m) := lev_eq (by rw [h])
/-- What is handed to a function. -/
theorem lv1 {cs0 ds0 : List V} (c : LeVs cs0 ds0 := by (first | exact levs_eq rfl | repeat' (first | exact lev_eq rfl | exact lev_nil | exact lev_len (set_len (by assumption)).symm | exact lev_len ((set_len (by assumption)).trans (set_len (by assumption))).symm | refine lev_tup ?_ | refine lev_agg ?_ | exact levs_eq rfl | refine levs_cons ?_ ?_))) : LeVs cs0 ds0 := c
/-- All steps that no fact is needed for. -/
theorem st1 {p q : Prop} (h : q) (c : q → p := by (intro h; (repeat (first | ((with_reducible refine go_ret ?_)) | ((with_reducible refine go_put ?_); (conv => arg 1; whnf)) | ((with_reducible apply go_get); exact rfl; (conv => arg 1; whnf)) | ((with_reducible refine go_req ?_ ?_); exact (of_decide_eq_true rfl); (conv => arg 1; whnf)) | ((with_reducible refine go_req ?_ ?_); exact trivial; (conv => arg 1; whnf)) | ((with_reducible refine go_req ?_ ?_); exact rfl; (conv => arg 1; whnf)) | ((with_reducible refine go_req ?_ ?_); exact (rlen (by intro _; rfl) _); (conv => arg 1; whnf)) | ((with_reducible refine go_req ?_ ?_); exact ⟨rlen (by intro _; rfl) _, by decide⟩; (conv => arg 1; whnf)) | ((with_reducible refine go_reqP ?_ ?_); exact rfl; (conv => arg 1; whnf)) | ((with_reducible refine ops_nil ?_)) | ((with_reducible refine ops_cons ?_ ?_ ?_); exact rfl; exact rfl; (conv => arg 1; whnf)) | ((with_reducible apply ops_take); exact rfl; exact rfl; exact rfl; exact rfl; (conv => arg 1; whnf)) | ((with_reducible apply ops_skip); exact rfl; exact rfl; exact rfl; exact rfl) | ((with_reducible apply ops_skipU); exact rfl; exact rfl; exact rfl; exact rfl) | ((with_reducible refine goT_ret ?_)) | ((with_reducible refine goT_put ?_); (conv => arg 1; whnf)) | ((with_reducible apply goT_get); exact rfl; (conv => arg 1; whnf)) | ((with_reducible refine goT_req ?_ ?_); exact (of_decide_eq_true rfl); (conv => arg 1; whnf)) | ((with_reducible refine goT_req ?_ ?_); exact trivial; (conv => arg 1; whnf)) | ((with_reducible refine goT_req ?_ ?_); exact rfl; (conv => arg 1; whnf)) | ((with_reducible refine goT_req ?_ ?_); exact (rlen (by intro _; rfl) _); (conv => arg 1; whnf)) | ((with_reducible refine goT_req ?_ ?_); exact ⟨rlen (by intro _; rfl) _, by decide⟩; (conv => arg 1; whnf)) | ((with_reducible refine goT_reqP ?_ ?_); exact rfl; (conv => arg 1; whnf)) | ((with_reducible refine d_step ?_ ?_); kernel_rfl) | ((with_reducible refine d_nil ?_)) | ((with_reducible refine d_cons ?_ ?_ ?_); exact rfl; exact rfl; (conv => arg 1; whnf)) | ((conv => arg 6; whnf); (with_reducible refine d_cons ?_ ?_ ?_); exact rfl; exact rfl; (conv => arg 1; whnf)) | ((conv => arg 5; whnf); (with_reducible refine ops_cons ?_ ?_ ?_); exact rfl; exact rfl; (conv => arg 1; whnf)) | ((with_reducible apply d_take); exact rfl; exact rfl; exact rfl; exact rfl; (conv => arg 1; whnf)) | ((with_reducible apply d_skip); exact rfl; exact rfl; exact rfl; exact rfl; (first | exact rfl | kernel_rfl)) | ((with_reducible apply d_skipU); exact rfl; exact rfl; exact rfl; exact rfl; (first | exact rfl | kernel_rfl)) | ((conv => arg 6; whnf); (with_reducible apply d_take); exact rfl; exact rfl; exact rfl; exact rfl; (conv => arg 1; whnf)) | ((conv => arg 6; whnf); (with_reducible apply d_skip); exact rfl; exact rfl; exact rfl; exact rfl; (first | exact rfl | kernel_rfl)) | ((with_reducible refine st_regionD ?_ ?_); kernel_rfl; (conv => arg 6; whnf)) | ((with_reducible refine st_seq ?_)) | ((with_reducible refine st_region rfl rfl ?_); (conv => arg 5; whnf)) | ((with_reducible refine st_block ?_)) | ((with_reducible refine st_skip ?_)) | ((with_reducible refine st_exit ?_)) | ((with_reducible refine st_ret ?_)) | ((with_reducible refine k_seq ?_)) | ((with_reducible refine k_seqX ?_)) | ((with_reducible refine k_seqR ?_)) | ((with_reducible refine k_block ?_)) | ((with_reducible refine k_blockX ?_)) | ((with_reducible refine k_blockY ?_ ?_); exact rfl) | ((with_reducible refine k_blockR ?_)) | ((with_reducible refine k_loopX ?_)) | ((with_reducible refine k_loopR ?_)) | ((with_reducible refine st_condT ?_ ?_); exact rfl) | ((with_reducible refine st_condF ?_ ?_); exact rfl))); exact h)) : p := c h
/-- The end of a function. -/
theorem en1 {p : Prop} (c : p := by ((conv => whnf); (repeat (first | (refine And.intro (fz_len (by intro _; rfl) _) ?_; conv => whnf) | (refine And.intro (of_decide_eq_true rfl) ?_; conv => whnf))); repeat' (first | exact lev_eq rfl | exact lev_nil | refine lev_tup ?_ | refine lev_agg ?_ | exact levs_eq rfl | refine levs_cons ?_ ?_))) : p := c
theorem fz_len2 {α : Type} {enc : α → List V} {s : Nat} {l l' : List α} (h : l'.length = l.length) (he : ∀ a, (enc a).length = s) : l.length * s = (recs enc l').length := by rw [← h]; exact (recs_length he l').symm
/-- The end of a function that makes a list. -/
theorem en2 {p : Prop} (c : p := by ((conv => whnf); (first | exact Or.inl ⟨_, _, _, rfl, rfl, fz_len (by intro _; rfl) _, rfl⟩ | exact Or.inr ⟨rfl, rfl⟩))) : p := c
theorem ren_osl {r : List (Nat × Nat)} {b b' n n' : Nat} (h : look r b = some b') (hn : n = n') : renV r (.osl b n) = some (.osl b' n') := by
  subst hn
  simp [renV, renP, h]
/-- The slots, the boxes at a loop's head. -/
theorem sT {p : Prop} (c : p := by (repeat (first | exact trivial | refine And.intro (Or.inl rfl) ?_ | refine And.intro (Or.inl (ren_fn (by assumption) _)) ?_ | refine And.intro (Or.inl (ren_osl rfl (by first | exact set_len (by assumption) | exact (set_len (by assumption)).trans (set_len (by assumption))))) ?_ | refine And.intro (Or.inr rfl) ?_))) : p := c
theorem sC {p : Prop} (c : p := by (repeat (first | exact trivial | refine And.intro (Or.inl rfl) ?_ | refine And.intro (Or.inl (ren_fn (by assumption) _)) ?_ | refine And.intro (Or.inl (ren_osl rfl (by first | exact set_len (by assumption) | exact (set_len (by assumption)).trans (set_len (by assumption))))) ?_ | refine And.intro (Or.inr rfl) ?_))) : p := c
theorem sS {p : Prop} (c : p := by (repeat (first | exact trivial | refine And.intro (Or.inl ⟨_, _, rfl, rfl, rfl⟩) ?_ | refine And.intro (Or.inr (Or.inl rfl)) ?_ | refine And.intro (Or.inr (Or.inr ⟨_, _, _, _, rfl, rfl, rfl, sC⟩)) ?_))) : p := c
end Go.Ev
/- What is handed to a law, read as values without memory. -/
set_option linter.unusedVariables false
set_option linter.unusedSimpArgs false
namespace Go.Ev
open Go.RowKit Go.ChangeShapes

def All2 {α β : Type} (R : α → β → Prop) : List α → List β → Prop
  | [], [] => True
  | a :: l0, b :: m0 => R a b ∧ All2 R l0 m0
  | _, _ => False

theorem all2_1 {α β : Type} {R : α → β → Prop} {x0 : α} {ls : List β} (h : All2 R [x0] ls) : ∃ a0, ls = [a0] ∧ R x0 a0 := by
  match ls, h with
  | [a0], ⟨h0, _⟩ => exact ⟨a0, rfl, h0⟩

theorem all2_2 {α β : Type} {R : α → β → Prop} {x0 x1 : α} {ls : List β} (h : All2 R [x0, x1] ls) : ∃ a0 a1, ls = [a0, a1] ∧ R x0 a0 ∧ R x1 a1 := by
  match ls, h with
  | [a0, a1], ⟨h0, h1, _⟩ => exact ⟨a0, a1, rfl, h0, h1⟩

theorem all2_3 {α β : Type} {R : α → β → Prop} {x0 x1 x2 : α} {ls : List β} (h : All2 R [x0, x1, x2] ls) : ∃ a0 a1 a2, ls = [a0, a1, a2] ∧ R x0 a0 ∧ R x1 a1 ∧ R x2 a2 := by
  match ls, h with
  | [a0, a1, a2], ⟨h0, h1, h2, _⟩ => exact ⟨a0, a1, a2, rfl, h0, h1, h2⟩

theorem all2_4 {α β : Type} {R : α → β → Prop} {x0 x1 x2 x3 : α} {ls : List β} (h : All2 R [x0, x1, x2, x3] ls) : ∃ a0 a1 a2 a3, ls = [a0, a1, a2, a3] ∧ R x0 a0 ∧ R x1 a1 ∧ R x2 a2 ∧ R x3 a3 := by
  match ls, h with
  | [a0, a1, a2, a3], ⟨h0, h1, h2, h3, _⟩ => exact ⟨a0, a1, a2, a3, rfl, h0, h1, h2, h3⟩

theorem all2_5 {α β : Type} {R : α → β → Prop} {x0 x1 x2 x3 x4 : α} {ls : List β} (h : All2 R [x0, x1, x2, x3, x4] ls) : ∃ a0 a1 a2 a3 a4, ls = [a0, a1, a2, a3, a4] ∧ R x0 a0 ∧ R x1 a1 ∧ R x2 a2 ∧ R x3 a3 ∧ R x4 a4 := by
  match ls, h with
  | [a0, a1, a2, a3, a4], ⟨h0, h1, h2, h3, h4, _⟩ => exact ⟨a0, a1, a2, a3, a4, rfl, h0, h1, h2, h3, h4⟩

theorem all2_6 {α β : Type} {R : α → β → Prop} {x0 x1 x2 x3 x4 x5 : α} {ls : List β} (h : All2 R [x0, x1, x2, x3, x4, x5] ls) : ∃ a0 a1 a2 a3 a4 a5, ls = [a0, a1, a2, a3, a4, a5] ∧ R x0 a0 ∧ R x1 a1 ∧ R x2 a2 ∧ R x3 a3 ∧ R x4 a4 ∧ R x5 a5 := by
  match ls, h with
  | [a0, a1, a2, a3, a4, a5], ⟨h0, h1, h2, h3, h4, h5, _⟩ => exact ⟨a0, a1, a2, a3, a4, a5, rfl, h0, h1, h2, h3, h4, h5⟩

theorem all2_7 {α β : Type} {R : α → β → Prop} {x0 x1 x2 x3 x4 x5 x6 : α} {ls : List β} (h : All2 R [x0, x1, x2, x3, x4, x5, x6] ls) : ∃ a0 a1 a2 a3 a4 a5 a6, ls = [a0, a1, a2, a3, a4, a5, a6] ∧ R x0 a0 ∧ R x1 a1 ∧ R x2 a2 ∧ R x3 a3 ∧ R x4 a4 ∧ R x5 a5 ∧ R x6 a6 := by
  match ls, h with
  | [a0, a1, a2, a3, a4, a5, a6], ⟨h0, h1, h2, h3, h4, h5, h6, _⟩ => exact ⟨a0, a1, a2, a3, a4, a5, a6, rfl, h0, h1, h2, h3, h4, h5, h6⟩

theorem all2_8 {α β : Type} {R : α → β → Prop} {x0 x1 x2 x3 x4 x5 x6 x7 : α} {ls : List β} (h : All2 R [x0, x1, x2, x3, x4, x5, x6, x7] ls) : ∃ a0 a1 a2 a3 a4 a5 a6 a7, ls = [a0, a1, a2, a3, a4, a5, a6, a7] ∧ R x0 a0 ∧ R x1 a1 ∧ R x2 a2 ∧ R x3 a3 ∧ R x4 a4 ∧ R x5 a5 ∧ R x6 a6 ∧ R x7 a7 := by
  match ls, h with
  | [a0, a1, a2, a3, a4, a5, a6, a7], ⟨h0, h1, h2, h3, h4, h5, h6, h7, _⟩ => exact ⟨a0, a1, a2, a3, a4, a5, a6, a7, rfl, h0, h1, h2, h3, h4, h5, h6, h7⟩

theorem all2_9 {α β : Type} {R : α → β → Prop} {x0 x1 x2 x3 x4 x5 x6 x7 x8 : α} {ls : List β} (h : All2 R [x0, x1, x2, x3, x4, x5, x6, x7, x8] ls) : ∃ a0 a1 a2 a3 a4 a5 a6 a7 a8, ls = [a0, a1, a2, a3, a4, a5, a6, a7, a8] ∧ R x0 a0 ∧ R x1 a1 ∧ R x2 a2 ∧ R x3 a3 ∧ R x4 a4 ∧ R x5 a5 ∧ R x6 a6 ∧ R x7 a7 ∧ R x8 a8 := by
  match ls, h with
  | [a0, a1, a2, a3, a4, a5, a6, a7, a8], ⟨h0, h1, h2, h3, h4, h5, h6, h7, h8, _⟩ => exact ⟨a0, a1, a2, a3, a4, a5, a6, a7, a8, rfl, h0, h1, h2, h3, h4, h5, h6, h7, h8⟩

theorem all2_10 {α β : Type} {R : α → β → Prop} {x0 x1 x2 x3 x4 x5 x6 x7 x8 x9 : α} {ls : List β} (h : All2 R [x0, x1, x2, x3, x4, x5, x6, x7, x8, x9] ls) : ∃ a0 a1 a2 a3 a4 a5 a6 a7 a8 a9, ls = [a0, a1, a2, a3, a4, a5, a6, a7, a8, a9] ∧ R x0 a0 ∧ R x1 a1 ∧ R x2 a2 ∧ R x3 a3 ∧ R x4 a4 ∧ R x5 a5 ∧ R x6 a6 ∧ R x7 a7 ∧ R x8 a8 ∧ R x9 a9 := by
  match ls, h with
  | [a0, a1, a2, a3, a4, a5, a6, a7, a8, a9], ⟨h0, h1, h2, h3, h4, h5, h6, h7, h8, h9, _⟩ => exact ⟨a0, a1, a2, a3, a4, a5, a6, a7, a8, a9, rfl, h0, h1, h2, h3, h4, h5, h6, h7, h8, h9⟩

theorem all2_11 {α β : Type} {R : α → β → Prop} {x0 x1 x2 x3 x4 x5 x6 x7 x8 x9 x10 : α} {ls : List β} (h : All2 R [x0, x1, x2, x3, x4, x5, x6, x7, x8, x9, x10] ls) : ∃ a0 a1 a2 a3 a4 a5 a6 a7 a8 a9 a10, ls = [a0, a1, a2, a3, a4, a5, a6, a7, a8, a9, a10] ∧ R x0 a0 ∧ R x1 a1 ∧ R x2 a2 ∧ R x3 a3 ∧ R x4 a4 ∧ R x5 a5 ∧ R x6 a6 ∧ R x7 a7 ∧ R x8 a8 ∧ R x9 a9 ∧ R x10 a10 := by
  match ls, h with
  | [a0, a1, a2, a3, a4, a5, a6, a7, a8, a9, a10], ⟨h0, h1, h2, h3, h4, h5, h6, h7, h8, h9, h10, _⟩ => exact ⟨a0, a1, a2, a3, a4, a5, a6, a7, a8, a9, a10, rfl, h0, h1, h2, h3, h4, h5, h6, h7, h8, h9, h10⟩

theorem all2_12 {α β : Type} {R : α → β → Prop} {x0 x1 x2 x3 x4 x5 x6 x7 x8 x9 x10 x11 : α} {ls : List β} (h : All2 R [x0, x1, x2, x3, x4, x5, x6, x7, x8, x9, x10, x11] ls) : ∃ a0 a1 a2 a3 a4 a5 a6 a7 a8 a9 a10 a11, ls = [a0, a1, a2, a3, a4, a5, a6, a7, a8, a9, a10, a11] ∧ R x0 a0 ∧ R x1 a1 ∧ R x2 a2 ∧ R x3 a3 ∧ R x4 a4 ∧ R x5 a5 ∧ R x6 a6 ∧ R x7 a7 ∧ R x8 a8 ∧ R x9 a9 ∧ R x10 a10 ∧ R x11 a11 := by
  match ls, h with
  | [a0, a1, a2, a3, a4, a5, a6, a7, a8, a9, a10, a11], ⟨h0, h1, h2, h3, h4, h5, h6, h7, h8, h9, h10, h11, _⟩ => exact ⟨a0, a1, a2, a3, a4, a5, a6, a7, a8, a9, a10, a11, rfl, h0, h1, h2, h3, h4, h5, h6, h7, h8, h9, h10, h11⟩

/-- The cells of a value of a type. -/
def Typ (P : Program) : Nat → TypeId → List V → Prop
  | 0, _, _ => False
  | n + 1, t, vs => match P.underlying t with
    | some .bool => ∃ b, vs = [.v (.bool b)]
    | some (.int k) => ∃ i, vs = [.v (.int k i)] ∧ (Lit.int k i).wf = true
    | some .string => ∃ s : ByteArray, vs = [.v (.string s)] ∧ s.size ≤ reachBytes
    | some (.slice e) => ∃ ls : List (List V), vs = [.sl ls.flatten ls.length] ∧ (∀ l ∈ ls, Typ P n e l) ∧ ls.length * P.bytesOf e ≤ reachBytes
    | some (.struct fs) => ∃ ls : List (List V), vs = ls.flatten ∧ All2 (fun (f : Field) l => Typ P n f.type l) fs.toList ls
    | some (.array k e) => ∃ ls : List (List V), vs = ls.flatten ∧ ls.length = k ∧ ∀ l ∈ ls, Typ P n e l
    | _ => False

section
variable {P : Program} {H : Type} {enc : TypeId × Value → H} {W : World}

theorem cells?_eq {g o n : Nat} {l : List Value} (h : W.cells? 0 ⟨g, o, none⟩ n = some l) : ((cellsAt W.heap g).drop o).take n = l ∧ l.length = n := by
  simp only [World.cells?, Nat.zero_le, if_true] at h
  obtain ⟨h1, h2⟩ := mapM_get (f := fun i => W.cell? (Addr.add ⟨g, o, none⟩ i)) h
  have hl : l.length = n := by rw [← h1]; simp
  refine ⟨?_, hl⟩
  apply List.ext_getElem?
  intro i
  by_cases hi : i < n
  · rw [List.getElem?_take, if_pos hi, List.getElem?_drop]
    obtain ⟨v, hv1, hv2⟩ := h2 i i (by simp [hi])
    rw [hv1]
    have e : Addr.add ⟨g, o, none⟩ i = ⟨g, o + i, none⟩ := by
      unfold Addr.add
      split
      · next e => subst e; rfl
      · rfl
    rw [e] at hv2
    unfold World.cell? at hv2
    unfold cellsAt
    split at hv2
    · next c _ _ hh => simp at hv2; simp [hh, hv2]
    · cases hv2
  · rw [List.getElem?_eq_none (by rw [List.length_take]; omega), List.getElem?_eq_none (by omega)]

theorem cells?_lt {g o n : Nat} {l : List Value} (h : W.cells? 0 ⟨g, o, none⟩ n = some l) (hn : 0 < n) : g < W.heap.size := by
  obtain ⟨h1, h2⟩ := cells?_eq h
  refine Decidable.byContradiction fun hc => ?_
  have : cellsAt W.heap g = [] := by unfold cellsAt; rw [Array.getElem?_eq_none (by omega)]
  rw [this] at h1
  simp at h1
  subst h1
  simp at h2
  omega

theorem RCs_append_iff {F : FZ} {Hp : Array Obj} {one : Bool} {cs ds : List V} {xs ys : List Value} (h : RCs F Hp one cs xs) (k : RCs F Hp one ds ys) : RCs F Hp one (cs ++ ds) (xs ++ ys) := RCs_append h k

theorem weightsAll_mem {p : Nat → Bool} {e : TypeId} : ∀ {ds : List (DataW H)}, (DataW.weightsAll P e ds).all p = true → ∀ d ∈ ds, (d.weights P e).all p = true
  | [], _, d, h => by cases h
  | d0 :: ds, h, d, hd => by
    simp only [DataW.weightsAll, List.all_append, Bool.and_eq_true] at h
    cases hd with
    | head => exact h.1
    | tail _ hd => exact weightsAll_mem h.2 d hd

theorem weightsEach_get {p : Nat → Bool} : ∀ {ts : List TypeId} {ds : List (DataW H)}, (DataW.weightsEach P ts ds).all p = true → ∀ (i : Nat) (t : TypeId) (d : DataW H), ts[i]? = some t → ds[i]? = some d → (d.weights P t).all p = true
  | [], _, _, i, t, d, ht, _ => by simp at ht
  | _ :: _, [], _, i, t, d, _, hd => by simp at hd
  | t0 :: ts, d0 :: ds, h, i, t, d, ht, hd => by
    simp only [DataW.weightsEach, List.all_append, Bool.and_eq_true] at h
    cases i with
    | zero => simp at ht hd; subst ht hd; exact h.1
    | succ i => exact weightsEach_get h.2 i t d (by simpa using ht) (by simpa using hd)

theorem pieces {F : FZ} {Hp : Array Obj} {size : Field → Nat} {Q : Field → List V → Prop} : ∀ (fs : List Field) (off : Nat) (cs : List Value), (∀ (j : Nat) (f : Field), fs[j]? = some f → f.offset = off + ((fs.take j).map size).sum) →
    (∀ (j : Nat) (f : Field), fs[j]? = some f → ∃ vs, RCs F Hp true vs ((cs.drop f.offset).take (size f)) ∧ Q f vs) → off + (fs.map size).sum = cs.length → ∃ ls : List (List V), RCs F Hp true ls.flatten (cs.drop off) ∧ All2 Q fs ls
  | [], off, cs, _, _, hl => by
    refine ⟨[], ?_, trivial⟩
    rw [List.drop_of_length_le (by simp at hl; omega)]
    trivial
  | f :: fs, off, cs, ho, hp, hl => by
    obtain ⟨vs, h1, h2⟩ := hp 0 f rfl
    have ho0 : f.offset = off := by have := ho 0 f rfl; simpa using this
    rw [ho0] at h1
    obtain ⟨ls, h3, h4⟩ := pieces fs (off + size f) cs (by
      intro j f' hf
      have := ho (j + 1) f' (by simpa using hf)
      rw [this, List.take_succ_cons, List.map_cons, List.sum_cons]
      omega) (fun j f' hf => hp (j + 1) f' (by simpa using hf)) (by simp at hl; omega)
    refine ⟨vs :: ls, ?_, h2, h4⟩
    rw [List.flatten_cons]
    have : cs.drop off = (cs.drop off).take (size f) ++ cs.drop (off + size f) := by rw [← List.drop_drop, List.take_append_drop]
    rw [this]
    exact RCs_append h1 h3

theorem rows_RCs {F : FZ} {Hp : Array Obj} {L : List Value} {size : Nat} {Q : List V → Prop} : ∀ (n : Nat), (∀ i, i < n → ∃ vs, RCs F Hp true vs ((L.drop (i * size)).take size) ∧ Q vs) →
    ∃ ls : List (List V), ls.length = n ∧ RCs F Hp true ls.flatten (L.take (n * size)) ∧ ∀ l ∈ ls, Q l
  | 0, _ => ⟨[], rfl, by simp [RCs], by simp⟩
  | n + 1, h => by
    obtain ⟨ls, h1, h2, h3⟩ := rows_RCs n fun i hi => h i (by omega)
    obtain ⟨vs, h4, h5⟩ := h n (by omega)
    refine ⟨ls ++ [vs], by simp [h1], ?_, ?_⟩
    · rw [List.flatten_append, Nat.add_mul, Nat.one_mul, List.take_add]
      simpa using RCs_append h2 h4
    · intro l hl
      rcases List.mem_append.1 hl with hl | hl
      · exact h3 l hl
      · simp at hl; subst hl; exact h5

/-- Types without pointers, maps, functions; structs and arrays lie cell by cell. -/
def plainT (P : Program) : Nat → TypeId → Bool
  | 0, _ => false
  | n + 1, t => match P.underlying t with
    | some .bool => true
    | some (.int _) => true
    | some .string => true
    | some (.slice e) => plainT P n e
    | some (.struct fs) => fs.toList.all (fun f => plainT P n f.type) && P.cellsOf t == (fs.toList.map fun f => P.cellsOf f.type).sum &&
        (List.range fs.toList.length).all fun j => match fs.toList[j]? with | some f => f.offset == ((fs.toList.take j).map fun f => P.cellsOf f.type).sum | none => true
    | some (.array k e) => plainT P n e && P.cellsOf t == k * P.cellsOf e
    | _ => false

theorem RCs_lit {v : Value} (h : v.oneCell' = true) : RCs (fun g _ => g < W.heap.size) W.heap true [.v v] [v] := ⟨⟨rfl, fun _ => h⟩, trivial⟩

theorem mapM_opt {α β : Type} {f : α → Option β} : ∀ {l : List α} {l' : List β}, l.mapM f = some l' → l.length = l'.length ∧ ∀ (i : Nat) (a : α), l[i]? = some a → ∃ b, l'[i]? = some b ∧ f a = some b := mapM_get

/-- WHAT CAN BE READ AS DATA HAS CELLS OF ITS TYPE. -/
theorem trod_typ {sp : Nat → Bool} {held : Bool} : ∀ (k : Nat) (t : TypeId), plainT P k t = true → ∀ (fuel : Nat) (cs : List Value) (x : DataW H × List MemPlace),
    DataW.trod enc P W 0 sp held fuel t cs = some x → (x.1.weights P t).all (· ≤ reachBytes) = true → ∃ vs, RCs (fun g _ => g < W.heap.size) W.heap true vs cs ∧ Typ P k t vs
  | 0, t, hp, _, _, _, _, _ => by cases hp
  | k + 1, t, hp, fuel, cs, x, h, hw => by
    simp only [plainT] at hp
    split at hp
    · next ht =>
      obtain ⟨b, rfl, rfl⟩ := DataW.trod_bool ht h
      simp only [Typ, ht]
      exact ⟨_, RCs_lit rfl, b, rfl⟩
    · next kk ht =>
      obtain ⟨n, rfl, rfl, hwf⟩ := DataW.trod_int ht h
      simp only [Typ, ht]
      exact ⟨_, RCs_lit rfl, n, rfl, hwf⟩
    · next ht =>
      obtain ⟨s, rfl, rfl, hs⟩ := DataW.trod_string ht h
      simp only [Typ, ht]
      refine ⟨_, RCs_lit rfl, s, rfl, ?_⟩
      simp [DataW.weights] at hw
      exact hw
    · next e ht =>
      simp only [Typ, ht]
      rcases DataW.trod_slice ht h with ⟨rfl, rfl⟩ | ⟨a, len, cap, elems, rest, n, rfl, rfl, rfl, hb, hlc, hm, hlen, hel, _, _⟩
      · exact ⟨[.sl [] 0], ⟨⟨⟨none, 0, rfl, Nat.le_refl _, Nat.zero_le _, .inl rfl⟩, fun _ => rfl⟩, trivial⟩, [], rfl, by simp, by simp⟩
      · simp only [DataW.weights, ht, List.all_cons, Bool.and_eq_true, decide_eq_true_eq, List.all_append, List.length_map] at hw
        obtain ⟨hw1, hw2, _⟩ := hw
        have key : ∀ i, i < len → ∃ ecs y, W.cells? 0 (a.add (i * P.cellsOf e)) (P.cellsOf e) = some ecs ∧ DataW.trod enc P W 0 sp held n e ecs = some y ∧ (y.1.weights P e).all (· ≤ reachBytes) = true := by
          intro i hi
          have h1 := hel i hi
          have hie : i < elems.length := by omega
          rw [List.getElem?_eq_getElem hie, Option.bind_eq_some_iff] at h1
          obtain ⟨ecs, h2, h3⟩ := h1
          exact ⟨ecs, _, h2, h3, weightsAll_mem hw2 _ (List.mem_map.2 ⟨_, List.getElem_mem hie, rfl⟩)⟩
        obtain ⟨g, off, spot⟩ := a
        have hbound : len * P.bytesOf e ≤ reachBytes := Nat.le_trans (Nat.mul_le_mul_right _ (by omega)) hw1
        by_cases hz : len * P.cellsOf e = 0
        · -- no cells
          have : ∃ ls : List (List V), ls.length = len ∧ ls.flatten = [] ∧ ∀ l ∈ ls, Typ P k e l := by
            refine ⟨List.replicate len [], by simp, by simp, ?_⟩
            intro l hl
            obtain ⟨hl1, rfl⟩ := List.mem_replicate.1 hl
            have hlen0 : 0 < len := by omega
            have hc0 : P.cellsOf e = 0 := by
              rcases Nat.mul_eq_zero.1 hz with h | h
              · omega
              · exact h
            obtain ⟨ecs, y, h1, h2, h3⟩ := key 0 hlen0
            obtain ⟨vs, h4, h5⟩ := trod_typ k e hp n ecs y h2 h3
            have : ecs = [] := by
              simp [World.cells?, hc0] at h1
              exact h1
            subst this
            have := RCs_length h4
            simp at this
            subst this
            exact h5
          obtain ⟨ls, l1, l2, l3⟩ := this
          exact ⟨[.sl ls.flatten ls.length], ⟨⟨⟨_, cap, by rw [l1], by omega, hm, .inl l2⟩, fun _ => rfl⟩, trivial⟩, ls, rfl, l3, by rw [l1]; exact hbound⟩
        · have hpos : 0 < len ∧ 0 < P.cellsOf e := ⟨Nat.pos_of_ne_zero fun e0 => hz (by rw [e0, Nat.zero_mul]), Nat.pos_of_ne_zero fun e0 => hz (by rw [e0, Nat.mul_zero])⟩
          have hspot : spot = none := by
            obtain ⟨ecs, y, h1, _⟩ := key 0 hpos.1
            rw [Nat.zero_mul] at h1
            simp only [World.cells?, Nat.zero_le, if_true] at h1
            obtain ⟨_, h2⟩ := mapM_opt (f := fun i => W.cell? ((Addr.add ⟨g, off, spot⟩ 0).add i)) h1
            obtain ⟨v, _, h3⟩ := h2 0 0 (by simp [hpos.2])
            cases spot with
            | none => rfl
            | some q =>
              unfold World.cell? at h3
              split at h3
              · simp [Addr.add] at h3
              · cases h3
          subst hspot
          have hadd : ∀ i, Addr.add ⟨g, off, none⟩ (i * P.cellsOf e) = ⟨g, off + i * P.cellsOf e, none⟩ := by
            intro i
            unfold Addr.add
            split
            · next e0 => rw [e0]; rfl
            · rfl
          have hlt : g < W.heap.size := by
            obtain ⟨ecs, y, h1, _⟩ := key 0 hpos.1
            rw [hadd] at h1
            exact cells?_lt h1 hpos.2
          obtain ⟨ls, l1, l2, l3⟩ := rows_RCs (F := fun g _ => g < W.heap.size) (Hp := W.heap) (L := (cellsAt W.heap g).drop off) (size := P.cellsOf e) (Q := Typ P k e) len (by
            intro i hi
            obtain ⟨ecs, y, h1, h2, h3⟩ := key i hi
            obtain ⟨vs, h4, h5⟩ := trod_typ k e hp n ecs y h2 h3
            rw [hadd] at h1
            obtain ⟨h6, _⟩ := cells?_eq h1
            refine ⟨vs, ?_, h5⟩
            rw [List.drop_drop, h6]
            exact h4)
          have hfl : ls.flatten.length ≤ len * P.cellsOf e := by
            have := RCs_length l2
            rw [List.length_take] at this
            omega
          refine ⟨[.sl ls.flatten ls.length], ⟨⟨⟨_, cap, by rw [l1], by omega, hm, .inr ⟨g, off, rfl, fun _ _ => hlt, ?_⟩⟩, fun _ => rfl⟩, trivial⟩, ls, rfl, l3, by rw [l1]; exact hbound⟩
          have e1 := RCs_length l2
          have : ((cellsAt W.heap g).drop off).take ls.flatten.length = ((cellsAt W.heap g).drop off).take (len * P.cellsOf e) := by
            rw [e1, List.length_take]
            rcases Nat.le_total (len * P.cellsOf e) ((cellsAt W.heap g).drop off).length with hh | hh
            · rw [Nat.min_eq_left hh]
            · rw [Nat.min_eq_right hh, List.take_of_length_le (Nat.le_refl _), List.take_of_length_le hh]
          rw [this]
          exact l2
    · next fs ht =>
      simp only [Typ, ht]
      rw [Bool.and_eq_true, Bool.and_eq_true] at hp
      obtain ⟨⟨hp1, hp2⟩, hp3⟩ := hp
      obtain ⟨xs, n, rfl, rfl, hlen, hxs, hf⟩ := DataW.trod_struct ht h
      simp only [DataW.weights, ht] at hw
      obtain ⟨ls, l1, l2⟩ := pieces (F := fun g _ => g < W.heap.size) (Hp := W.heap) (size := fun f => P.cellsOf f.type) (Q := fun f l => Typ P k f.type l) fs.toList 0 cs (by
        intro j f hj
        have hjl : j < fs.toList.length := (List.getElem?_eq_some_iff.1 hj).1
        have := List.all_eq_true.1 hp3 j (List.mem_range.2 hjl)
        simp only [hj, beq_iff_eq] at this
        omega) (by
        intro j f hj
        have hj' : fs[j]? = some f := by rw [← Array.getElem?_toList]; exact hj
        have h1 := hf j f hj'
        have hjx : j < xs.length := by rw [hxs]; have := (List.getElem?_eq_some_iff.1 hj).1; simpa using this
        rw [List.getElem?_eq_getElem hjx] at h1
        refine trod_typ k f.type (List.all_eq_true.1 hp1 f (List.mem_of_getElem? hj)) n _ _ h1 ?_
        exact weightsEach_get hw j f.type _ (by simp [hj]) (by simp [hjx])) (by
        rw [hlen, beq_iff_eq.1 hp2]; omega)
      exact ⟨ls.flatten, by simpa using l1, ls, rfl, l2⟩
    · next m e ht =>
      simp only [Typ, ht]
      rw [Bool.and_eq_true] at hp
      obtain ⟨hp1, hp2⟩ := hp
      obtain ⟨xs, n, rfl, rfl, hlen, hxs, hf⟩ := DataW.trod_array ht h
      simp only [DataW.weights, ht] at hw
      obtain ⟨ls, l1, l2, l3⟩ := rows_RCs (F := fun g _ => g < W.heap.size) (Hp := W.heap) (L := cs) (size := P.cellsOf e) (Q := Typ P k e) m (by
        intro i hi
        have h1 := hf i hi
        have hix : i < xs.length := by omega
        rw [List.getElem?_eq_getElem hix] at h1
        exact trod_typ k e hp1 n _ _ h1 (weightsAll_mem hw _ (List.mem_map.2 ⟨_, List.getElem_mem hix, rfl⟩)))
      refine ⟨ls.flatten, ?_, ls, rfl, l1, l3⟩
      rw [beq_iff_eq.1 hp2] at hlen
      rwa [List.take_of_length_le (by omega)] at l2
    · cases hp
end

/-- A value out of its cells. -/
def typeV (P : Program) (t : TypeId) (vs : List V) : V := match P.underlying t with
  | some (.struct _) => .agg vs
  | some (.array _ _) => .agg vs
  | _ => (vs[0]?).getD .top

section
variable {P : Program} {H : Type} {enc : TypeId × Value → H} {W W' : World}

theorem cells_agg {v c : Value} (h : v.cells.toList = [c]) : v = c ∨ v = .agg #[c] := by
  cases v with
  | agg cs =>
    right
    have : cs.toList = [c] := h
    rw [show cs = #[c] from Array.ext' this]
  | _ => left; simpa [Value.cells] using h

theorem typeV_RC {F : FZ} {Hp : Array Obj} {r : Reach} {b0 k : Nat} {t : TypeId} {v : Value} {vs : List V} (hval : Value.okWide P W r b0 t v) (hr : RCs F Hp true vs v.cells.toList) (ht : Typ P k t vs) : RC F Hp (typeV P t vs) v := by
  cases k with
  | zero => exact ht.elim
  | succ k =>
    have single : ∀ c, vs = [c] → typeV P t vs = c → (∀ x, ¬ Value.okWide P W r b0 t (.agg x)) → RC F Hp (typeV P t vs) v := by
      intro c hc htv hno
      subst hc
      rw [htv]
      obtain ⟨x, hx⟩ : ∃ x, v.cells.toList = [x] := by
        have := RCs_length hr
        match hv : v.cells.toList with
        | [x] => exact ⟨x, rfl⟩
        | [] => rw [hv] at this; simp at this
        | _ :: _ :: _ => rw [hv] at this; simp at this
      rw [hx] at hr
      rcases cells_agg hx with rfl | rfl
      · exact hr.1.1
      · exact absurd hval (hno _)
    unfold Typ at ht
    split at ht
    · next hu =>
      obtain ⟨b, hb⟩ := ht
      exact single _ hb (by simp [typeV, hu, hb]) (by intro x; simp [Value.okWide, hu, Cell.okWide, Cell.ok])
    · next kk hu =>
      obtain ⟨i, hb, _⟩ := ht
      exact single _ hb (by simp [typeV, hu, hb]) (by intro x; simp [Value.okWide, hu, Cell.okWide, Cell.ok])
    · next hu =>
      obtain ⟨b, hb, _⟩ := ht
      exact single _ hb (by simp [typeV, hu, hb]) (by intro x; simp [Value.okWide, hu, Cell.okWide, Cell.ok])
    · next e hu =>
      obtain ⟨b, hb, _⟩ := ht
      exact single _ hb (by simp [typeV, hu, hb]) (by intro x; simp [Value.okWide, hu, Cell.okWide, Cell.ok])
    · next fs hu =>
      simp only [Value.okWide, hu] at hval
      obtain ⟨cs, rfl, _⟩ := hval
      simp only [typeV, hu]
      exact ⟨cs, rfl, hr⟩
    · next n e hu =>
      simp only [Value.okWide, hu] at hval
      obtain ⟨cs, rfl, _⟩ := hval
      simp only [typeV, hu]
      exact ⟨cs, rfl, hr⟩
    · exact ht.elim

/-- The arguments, one by one. -/
theorem args_typ {sp : Nat → Bool} {held : Bool} {r : Reach} {b0 k : Nat} : ∀ (ts : List TypeId) (args : List Value) (ds : List (DataW H)) (ps : List MemPlace), ts.all (plainT P k) = true → DataW.TrodAll enc P W 0 sp held ts args ds ps →
    (∀ (j : Nat) t v, ts[j]? = some t → args[j]? = some v → Value.okWide P W r b0 t v) → (DataW.weightsEach P ts ds).all (· ≤ reachBytes) = true →
    ∃ vss : List (List V), All2 (fun t vs => Typ P k t vs) ts vss ∧ RCs (fun g _ => g < W.heap.size) W.heap false ((ts.zip vss).map fun (t, vs) => typeV P t vs) args
  | [], args, ds, ps, _, h, _, _ => by
    obtain ⟨rfl, rfl, rfl⟩ := trodAll_nil h
    exact ⟨[], trivial, trivial⟩
  | t :: ts, args, ds, ps, hp, h, hval, hw => by
    obtain ⟨v, vs1, d, ds1, p, q, rfl, rfl, rfl, h1, h2⟩ := trodAll_cons h
    simp only [List.all_cons, Bool.and_eq_true] at hp
    simp only [DataW.weightsEach, List.all_append, Bool.and_eq_true] at hw
    obtain ⟨vss, a1, a2⟩ := args_typ ts vs1 ds1 q hp.2 h2 (fun j t v e1 e2 => hval (j + 1) t v (by simpa using e1) (by simpa using e2)) hw.2
    obtain ⟨fuel, hf⟩ := h1
    obtain ⟨vs, c1, c2⟩ := trod_typ k t hp.1 fuel _ _ hf hw.1
    exact ⟨vs :: vss, ⟨c2, a1⟩, ⟨typeV_RC (hval 0 t v rfl rfl) c1 c2, fun e => by cases e⟩, a2⟩

theorem stays_all (hl : laidOutB P = true) (hb : Below W.heap.size W W') {sp : Nat → Bool} : ∀ (ts : List TypeId) (args : List Value) (ds : List (DataW H)) (ps : List MemPlace), ts.all (fun t => P.readableRec t && decide (t < P.types.size)) = true →
    DataW.TrodAll enc P W 0 (fun _ => true) true ts args ds ps → (∀ p ∈ ps, p.block < W.heap.size) → (∀ p ∈ ps, sp p.block = true) → DataW.TrodAll enc P W' 0 sp true ts args ds ps
  | [], args, ds, ps, _, h, _, _ => by
    obtain ⟨rfl, rfl, rfl⟩ := trodAll_nil h
    exact trodAll_mk0
  | t :: ts, args, ds, ps, hr, h, hlt, hsp => by
    obtain ⟨v, vs1, d, ds1, p, q, rfl, rfl, rfl, h1, h2⟩ := trodAll_cons h
    simp only [List.all_cons, Bool.and_eq_true, decide_eq_true_eq] at hr
    refine trodAll_cons_mk ?_ (stays_all hl hb ts vs1 ds1 q hr.2 h2 (fun p hp => hlt p (by simp [hp])) (fun p hp => hsp p (by simp [hp])))
    exact WideElems.Trod_stays hl hr.1.1 hr.1.2 h1 (fun x hx => hb.same (hlt x (by simp [hx]))) (fun x hx => hsp x (by simp [hx]))

theorem trod_len {sp : Nat → Bool} {held : Bool} {b0 : Nat} : ∀ (ts : List TypeId) (args : List Value) (ds : List (DataW H)) (ps : List MemPlace), DataW.TrodAll enc P W b0 sp held ts args ds ps → ds.length = ts.length
  | [], args, ds, ps, h => by
    obtain ⟨rfl, rfl, rfl⟩ := trodAll_nil h
    rfl
  | t :: ts, args, ds, ps, h => by
    obtain ⟨v, vs1, d, ds1, p, q, rfl, rfl, rfl, h1, h2⟩ := trodAll_cons h
    simp [trod_len ts vs1 ds1 q h2]

/-- A LAW: WHATEVER THE INPUT: true, and what was there lies as it lay. -/
theorem lifted_law {C : Checked} {os : Os} {f : FuncId} {fn : Func} {s : ChangeSpec} {tb : TypeId} {k : Nat} {con : Con}
    (own : ownKnob C.prog.godebug = none) (started : os.Started) (noInit : C.prog.inits.idxOf? f = none) (hfn : C.prog.funcs[f]? = some fn)
    (witness : ∃ (w : World) (tape : Tape) (i : Input), w.os = os ∧ (w.forCall tape i).Shaped C.prog ∧ i.vars = [] ∧ Input.okWide C.prog (w.forCall tape i) .any w.heap.size f i ∧
      s.pre6 enc C.prog fn [] false (w.forCall tape i).memory i.args ∧ ({} : Assume).holds C.prog (lone (Frame.enter C.prog f i.args .normal) [] (w.forCall tape i)))
    (hvars : s.vars = []) (hspec : ∀ ds : List (DataW H), ds.length = fn.params.size → s.fn H ds = { results := [.lit (.bool true)], args := ds })
    (hres : fn.resultTypes = #[tb]) (hb : C.prog.underlying tb = some .bool) (hplain : fn.params.toList.all (plainT C.prog k) = true) (hl : laidOutB C.prog = true)
    (hread : fn.params.toList.all (fun t => C.prog.readableRec t && decide (t < C.prog.types.size)) = true)
    (hcon : Has C.prog f con) (hce : con.eff = none) (hcr : ∀ x, con.res x = .v (.bool true))
    (hargs : ∀ vss : List (List V), All2 (fun t vs => Typ C.prog k t vs) fn.params.toList vss → ∃ x, con.enc x = ((fn.params.toList.zip vss).map fun (t, vs) => typeV C.prog t vs) ∧ con.ok x)
    (hcf : con.frs = .keep := by rfl) :
    ReturnsInHanded {} C os f .any (s.pre6 enc C.prog fn [] false) (s.post enc C.prog fn false true false false) := by
  refine returnsInHanded_of_change_sized own started noInit hfn witness ?_
  intro W base args ds gs before hval hW _ hw _
  have hW' := hW
  obtain ⟨p, q, hA, hV, rfl, hfz, hnd⟩ := hW
  rw [hvars] at hV
  obtain ⟨rfl, rfl⟩ : gs = [] ∧ q = [] := by
    cases gs with
    | nil => exact ⟨rfl, hV⟩
    | cons _ _ => exact hV.elim
  have hlen := trod_len _ _ _ _ hA
  have hw1 : (DataW.weightsEach C.prog fn.params.toList ds).all (· ≤ reachBytes) = true := by
    have e : s.plain.varTypes C.prog = [] := by simp [ChangeSpec.plain, DataSpec.varTypes, hvars]
    rw [e, List.append_nil, List.append_nil] at hw
    exact hw
  obtain ⟨vss, a1, a2⟩ := args_typ fn.params.toList args.toList ds p hplain hA (fun j t v e1 e2 => hval j t v (by rw [← Array.getElem?_toList]; exact e1) (by rw [← Array.getElem?_toList]; exact e2)) hw1
  obtain ⟨x, henc, hok⟩ := hargs vss a1
  have hs : SoundV C.prog f con := by have := hcon.1; simpa only [Sound, hce, hcf] using this
  have hcall := hs x (fun g _ => g < W.heap.size) W args.toList (fun g j e => e) (by rw [henc]; exact a2) hok
  rw [show args.toList.toArray = args by simp] at hcall
  refine hcall.mono ?_
  rintro e W' ⟨v, F', rfl, hbl, _, _, _, hr⟩
  rw [hcr] at hr
  have hr : v = .bool true := hr
  subst hr
  have hds : ds.length = fn.params.size := by rw [hlen]; simp
  have hspec' := hspec ds hds
  have hlt : ∀ pl ∈ p ++ [], pl.block < W.heap.size := fun pl hp => hW'.lt pl hp
  have hA' : ∀ sp : Nat → Bool, (∀ pl ∈ p ++ [], sp pl.block = true) → DataW.TrodAll enc C.prog W' 0 sp true fn.params.toList args.toList ds p :=
    fun sp hsp => stays_all hl hbl fn.params.toList args.toList ds p hread hA (fun pl hp => hlt pl (by simp [hp])) (fun pl hp => hsp pl (by simp [hp]))
  have hres' : ∀ (b : Nat) (sp : Nat → Bool) (hd : Bool), DataW.TrodAll enc C.prog W' b sp hd fn.resultTypes.toList ((Value.bool true).resultList fn.resultTypes.size) [.lit (.bool true)] [] := by
    intro b sp hd
    rw [hres]
    exact trodAll_cons_mk (shut_bool hb _) trodAll_mk0
  refine ⟨_, rfl, ds, [], p ++ [], [], p, [], hW', ?_, ?_, ?_, ?_, fun ha => by cases ha⟩
  · rw [List.append_nil, hspec']
    exact hres' _ _ _
  · rw [List.append_nil, hspec']
    exact hA' _ fun pl hp => by simpa using hlt pl hp
  · rw [hvars, List.append_nil, hspec']
    rfl
  · exact hbl.frame _
end
end Go.Ev
/- A law, by what it is over data. -/
set_option linter.unusedVariables false
namespace Go.Ev
/-- A function that is true where its data say so. -/
def conL {α : Type} (F : α → Option Bool) (enc : α → List V) : Con := { α := α, enc := enc, ok := fun x => F x = some true, res := fun _ => .v (.bool true) }
theorem has_law {P : Program} {f : FuncId} {α : Type} {F : α → Option Bool} {enc : α → List V} {er : Bool → V} (h : Has P f (conF F enc er)) (he : er true = .v (.bool true)) : Has P f (conL F enc) := by
  refine ⟨?_, h.2⟩
  intro x F' w vs hF hv hok
  have := h.1 (x, true) F' w vs hF hv hok
  rw [show (conF F enc er).res (x, true) = .v (.bool true) from he] at this
  exact this
end Go.Ev
/- What is wanted of loops, lists and numbers, over data. -/
set_option linter.unusedVariables false
set_option linter.unusedSimpArgs false
namespace Go.Ev

theorem loop_run {S E : Type} {step : S → Option (S ⊕ E)} (st : Nat → S) (n : Nat) {e : E} (h : ∀ k, k < n → step (st k) = some (.inl (st (k + 1)))) (he : step (st n) = some (.inr e)) : loopC step (st 0) = some e := by
  have key : ∀ j, j ≤ n → loopC step (st (n - j)) = some e := by
    intro j
    induction j with
    | zero => intro _; rw [Nat.sub_zero, loopC_eq, he]
    | succ j ih =>
      intro hj
      rw [loopC_eq, h _ (by omega), show n - (j + 1) + 1 = n - j by omega]
      exact ih (by omega)
  have := key n (Nat.le_refl _)
  rwa [Nat.sub_self] at this

/-- Rounds over a list, until one fails. -/
theorem loop_list {α S E : Type} {step : S → Option (S ⊕ E)} (l : List α) (st : Nat → S) (q : α → Bool) {e f : E} (h : ∀ k (hk : k < l.length), step (st k) = some (if q l[k] then .inl (st (k + 1)) else .inr f)) (he : step (st l.length) = some (.inr e)) :
    loopC step (st 0) = some (if l.all q then e else f) := by
  have key : ∀ j, j ≤ l.length → loopC step (st (l.length - j)) = some (if (l.drop (l.length - j)).all q then e else f) := by
    intro j
    induction j with
    | zero => intro _; rw [Nat.sub_zero, loopC_eq, he]; simp
    | succ j ih =>
      intro hj
      have hlt : l.length - (j + 1) < l.length := by omega
      rw [loopC_eq, h _ hlt, List.drop_eq_getElem_cons hlt, show l.length - (j + 1) + 1 = l.length - j by omega]
      cases hq : q l[l.length - (j + 1)] with
      | true => simp only [if_true, List.all_cons, hq, Bool.true_and]; exact ih (by omega)
      | false => simp [hq]
  have := key l.length (Nat.le_refl _)
  rwa [Nat.sub_self, List.drop_zero] at this

/-- Rounds over a list that gather something, until one fails. -/
def gath {α σ E : Type} (g : σ → α → σ ⊕ E) (o : σ ⊕ E) (a : α) : σ ⊕ E := match o with
  | .inl s => g s a
  | .inr f => .inr f
theorem gath_inr {α σ E : Type} (g : σ → α → σ ⊕ E) (m : List α) (f : E) : m.foldl (gath g) (.inr f) = .inr f := by
  induction m with
  | nil => rfl
  | cons a m ih => simpa [gath] using ih
theorem loop_gather {α σ S E : Type} {step : S → Option (S ⊕ E)} (l : List α) (st : Nat → σ → S) (g : σ → α → σ ⊕ E) (e : σ → E) (h : ∀ k s (hk : k < l.length), step (st k s) = some (match g s l[k] with | .inl s' => .inl (st (k + 1) s') | .inr f => .inr f)) (he : ∀ s, step (st l.length s) = some (.inr (e s))) (s : σ) :
    loopC step (st 0 s) = some (match l.foldl (gath g) (.inl s) with | .inl s => e s | .inr f => f) := by
  have key : ∀ j, j ≤ l.length → ∀ s, loopC step (st (l.length - j) s) = some (match (l.drop (l.length - j)).foldl (gath g) (.inl s) with | .inl s => e s | .inr f => f) := by
    intro j
    induction j with
    | zero => intro _ s; rw [Nat.sub_zero, loopC_eq, he]; simp
    | succ j ih =>
      intro hj s
      have hlt : l.length - (j + 1) < l.length := by omega
      rw [loopC_eq, h _ _ hlt, List.drop_eq_getElem_cons hlt, show l.length - (j + 1) + 1 = l.length - j by omega, List.foldl_cons]
      simp only [gath]
      cases hg : g s l[l.length - (j + 1)] with
      | inl s' => simp only; exact ih (by omega) s'
      | inr f => simp only [gath_inr]
  have := key l.length (Nat.le_refl _) s
  rwa [Nat.sub_self, List.drop_zero] at this

theorem idx?_nat {α : Type} {l : List α} {k : Nat} (h : k < l.length) : idx? l (k : Int) = some l[k] := by
  unfold idx?
  rw [if_pos (by omega)]
  simp [h]
theorem wr_in {n : Int} (h : -9223372036854775808 ≤ n) (h' : n ≤ 9223372036854775807) : wr n = n := (wrap_ok h h').symm
theorem wr_nat {k : Nat} (h : k < 9223372036854775807) : wr ((k : Int) + 1) = ((k + 1 : Nat) : Int) := (wrap_succ h).symm

/-- Is a number from a to b? -/
def inB (n a b : Int) : Bool := decide (a ≤ n) && decide (n ≤ b)
theorem inB_iff {n a b : Int} : inB n a b = true ↔ a ≤ n ∧ n ≤ b := by simp [inB]
theorem app_nil {α : Type} {m : List α} {n : Nat} (h : m.length * n ≤ 140737488355328) (hn : 0 < n) : app? [] m n = some m := by
  unfold app?
  rw [if_pos (by simpa using ⟨h, hn⟩)]; rfl
theorem app_of {α : Type} {l m : List α} {n : Nat} (h : (l.length + m.length) * n ≤ 140737488355328) (hn : 0 < n) : app? l m n = some (l ++ m) := if_pos ⟨h, hn⟩
theorem nz_of {b : Int} (h : b ≠ 0) : nz? b = some () := if_pos h

/-- Neighbours in a list. -/
def pairs {α : Type} (l : List α) : List (α × α) := l.zip l.tail
theorem pairs_length {α : Type} (l : List α) : (pairs l).length = l.length - 1 := by simp [pairs]
theorem pairs_get {α : Type} (l : List α) (k : Nat) (h : k < (pairs l).length) : (pairs l)[k] = (l[k]'(by rw [pairs_length] at h; omega), l[k + 1]'(by rw [pairs_length] at h; omega)) := by
  simp [pairs]
end Go.Ev
/- The law's known(), over typed data. -/
namespace Go.Proofs
end Go.Proofs
namespace Go.Ev
def F_thalweglaw03_known : Unit → Option Bool := fun _ => some true
end Go.Ev
/- What the functions do over typed data. -/
set_option linter.unusedVariables false
set_option linter.unusedSimpArgs false
namespace Go.Ev
open Go.Proofs
set_option maxHeartbeats 8000000
set_option maxRecDepth 100000
structure TTowHull where
  Length : Int
  Width : Int
  Mass : Int
  deriving DecidableEq
def eTTowHull (x : TTowHull) : List V := [(V.v (.int .i64 (x.Length))), (V.v (.int .i64 (x.Width))), (V.v (.int .i64 (x.Mass)))]
structure TTow where
  Boat : TTowHull
  Power : Int
  Rows : List (List TTowHull)
  deriving DecidableEq
def eTTow (x : TTow) : List V := [(V.v (.int .i64 (x.Boat.Length))), (V.v (.int .i64 (x.Boat.Width))), (V.v (.int .i64 (x.Boat.Mass))), (V.v (.int .i64 (x.Power))), (V.sl (recs (eS eTTowHull) (x.Rows)) (x.Rows).length)]
structure TTowSize where
  Length : Int
  Width : Int
  Mass : Int
  Hulls : Int
  deriving DecidableEq
def eTTowSize (x : TTowSize) : List V := [(V.v (.int .i64 (x.Length))), (V.v (.int .i64 (x.Width))), (V.v (.int .i64 (x.Mass))), (V.v (.int .i64 (x.Hulls)))]
structure TBounds where
  Low : Int
  High : Int
  deriving DecidableEq
def eTBounds (x : TBounds) : List V := [(V.v (.int .i64 (x.Low))), (V.v (.int .i64 (x.High)))]
structure Tanon37 where
  a0 : Int
  a1 : Int
  deriving DecidableEq
def eTanon37 (x : Tanon37) : List V := [(V.v (.int .i64 (x.a0))), (V.v (.int .i64 (x.a1)))]
structure TRun where
  From : Int
  To : Int
  Speed : TBounds
  Wait : TBounds
  deriving DecidableEq
def eTRun (x : TRun) : List V := [(V.v (.int .i64 (x.From))), (V.v (.int .i64 (x.To))), (V.v (.int .i64 (x.Speed.Low))), (V.v (.int .i64 (x.Speed.High))), (V.v (.int .i64 (x.Wait.Low))), (V.v (.int .i64 (x.Wait.High)))]
structure TVoyage where
  Start : TBounds
  Runs : List TRun
  Length : Int
  Width : Int
  deriving DecidableEq
def eTVoyage (x : TVoyage) : List V := [(V.v (.int .i64 (x.Start.Low))), (V.v (.int .i64 (x.Start.High))), (V.sl (recs eTRun (x.Runs)) (x.Runs).length), (V.v (.int .i64 (x.Length))), (V.v (.int .i64 (x.Width)))]
structure TNarrow where
  From : Int
  To : Int
  Width : Int
  Single : Bool
  deriving DecidableEq
def eTNarrow (x : TNarrow) : List V := [(V.v (.int .i64 (x.From))), (V.v (.int .i64 (x.To))), (V.v (.int .i64 (x.Width))), (V.v (.bool (x.Single)))]
structure Ttow_stay where
  in_ : TBounds
  out_ : TBounds
  passes_ : Bool
  deriving DecidableEq
def eTtow_stay (x : Ttow_stay) : List V := [(V.v (.int .i64 (x.in_.Low))), (V.v (.int .i64 (x.in_.High))), (V.v (.int .i64 (x.out_.Low))), (V.v (.int .i64 (x.out_.High))), (V.v (.bool (x.passes_)))]
structure Tthalweglaw03_Truth where
  Start : Int
  Speeds : List Int
  Wait : List Int
  deriving DecidableEq
def eTthalweglaw03_Truth (x : Tthalweglaw03_Truth) : List V := [(V.v (.int .u8 (x.Start))), (V.sl (recs (eI .u8) (x.Speeds)) (x.Speeds).length), (V.sl (recs (eI .u8) (x.Wait)) (x.Wait).length)]
structure Tanon67 where
  a0 : TVoyage
  a1 : TVoyage
  deriving DecidableEq
def eTanon67 (x : Tanon67) : List V := [(V.v (.int .i64 (x.a0.Start.Low))), (V.v (.int .i64 (x.a0.Start.High))), (V.sl (recs eTRun (x.a0.Runs)) (x.a0.Runs).length), (V.v (.int .i64 (x.a0.Length))), (V.v (.int .i64 (x.a0.Width))), (V.v (.int .i64 (x.a1.Start.Low))), (V.v (.int .i64 (x.a1.Start.High))), (V.sl (recs eTRun (x.a1.Runs)) (x.a1.Runs).length), (V.v (.int .i64 (x.a1.Length))), (V.v (.int .i64 (x.a1.Width)))]
structure Tanon71 where
  a0 : Tthalweglaw03_Truth
  a1 : Tthalweglaw03_Truth
  deriving DecidableEq
def eTanon71 (x : Tanon71) : List V := [(V.v (.int .u8 (x.a0.Start))), (V.sl (recs (eI .u8) (x.a0.Speeds)) (x.a0.Speeds).length), (V.sl (recs (eI .u8) (x.a0.Wait)) (x.a0.Wait).length), (V.v (.int .u8 (x.a1.Start))), (V.sl (recs (eI .u8) (x.a1.Speeds)) (x.a1.Speeds).length), (V.sl (recs (eI .u8) (x.a1.Wait)) (x.a1.Wait).length)]
structure Tanon77 where
  a0 : Int
  a1 : Int
  deriving DecidableEq
def eTanon77 (x : Tanon77) : List V := [(V.v (.int .u8 (x.a0))), (V.v (.int .u8 (x.a1)))]
structure Tthalweglaw03_Brakes where
  Mass : Int
  Power : Int
  Grip : Tanon77
  Speed : Tanon77
  Sight : Int
  deriving DecidableEq
def eTthalweglaw03_Brakes (x : Tthalweglaw03_Brakes) : List V := [(V.v (.int .u16 (x.Mass))), (V.v (.int .u16 (x.Power))), (V.v (.int .u8 (x.Grip.a0))), (V.v (.int .u8 (x.Grip.a1))), (V.v (.int .u8 (x.Speed.a0))), (V.v (.int .u8 (x.Speed.a1))), (V.v (.int .u16 (x.Sight)))]

noncomputable def F_thalweglaw03_hulls : ((List TTowHull)) → Option (List TTowHull) := fun x => match x with
  | (a0) =>
    (app? (([] : List TTowHull)) (a0) 24).bind fun l1 =>
    some l1

noncomputable def L_numbers_Every_int_1 (a1 : (Int → Option Bool)) (a0 : List Int) (g : FuncId) (caps : List V) : LoopD (Int) (Unit ⊕ Bool) (Unit) where
  step := fun s => match s with
    | s1 =>
      bif (decide (s1 < ((a0).length : Int))) then
        (idx? (a0) (s1)).bind fun x4 =>
        (a1 (x4)).bind fun y5 =>
        bif (!y5) then
          some (.inr (.inr false))
        else
          some (.inl (wr (s1 + 1)))
      else
        some (.inr (.inl ()))
  at_ := fun s gh => match s, gh with
    | s1, () => ⟨[(1, (V.fn g caps)), (4, (V.v (.bool (false)))), (7, (V.sl (recs (eI .i64) (a0)) (a0).length)), (8, (V.v (.int .i64 (((a0).length : Int))))), (9, (V.v (.int .i64 (s1))))], [], 0⟩
noncomputable def F_numbers_Every_int : ((List Int) × ((Int → Option Bool)) × FuncId × (List V)) → Option (Bool) := fun x => match x with
  | (a0, a1, g, caps) =>
    (loopC (L_numbers_Every_int_1 a1 a0 g caps).step 0).bind fun e => match e with
    | (.inl ()) =>
      some true
    | (.inr r6) =>
      some r6

noncomputable def F_numbers_Within_1 : (Int × Int × Int) → Option (Bool) := fun x => match x with
  | (a0, c0, c1) =>
    bif (decide (c0 ≤ a0)) then
      some (decide (a0 ≤ c1))
    else
      some false

noncomputable def F_numbers_Within : (Int × Int × (List Int)) → Option (Bool) := fun x => match x with
  | (a0, a1, a2) =>
    (F_numbers_Every_int (a2, (fun q => F_numbers_Within_1 (q, a0, a1)), 66, [(V.fptr [(V.v (.int .i64 (a0)))]), (V.fptr [(V.v (.int .i64 (a1)))])])).bind fun y1 =>
    some y1

noncomputable def F_tow_validHull : (TTowHull) → Option (Bool) := fun x => match x with
  | (a0) =>
    (F_numbers_Within (1, 200, ([a0.Length] : List Int))).bind fun y1 =>
    bif y1 then
      (F_numbers_Within (1, 30, ([a0.Width] : List Int))).bind fun y2 =>
      bif y2 then
        (F_numbers_Within (0, 10000, ([a0.Mass] : List Int))).bind fun y3 =>
        some y3
      else
        some false
    else
      some false

noncomputable def L_numbers_Every_TowHull_1 (a1 : (TTowHull → Option Bool)) (a0 : List TTowHull) (g : FuncId) (caps : List V) : LoopD (Int) (Unit ⊕ Bool) (Unit) where
  step := fun s => match s with
    | s1 =>
      bif (decide (s1 < ((a0).length : Int))) then
        (idx? (a0) (s1)).bind fun x4 =>
        (a1 (x4)).bind fun y5 =>
        bif (!y5) then
          some (.inr (.inr false))
        else
          some (.inl (wr (s1 + 1)))
      else
        some (.inr (.inl ()))
  at_ := fun s gh => match s, gh with
    | s1, () => ⟨[(1, (V.fn g caps)), (4, (V.v (.bool (false)))), (7, (V.sl (recs eTTowHull (a0)) (a0).length)), (8, (V.v (.int .i64 (((a0).length : Int))))), (9, (V.v (.int .i64 (s1))))], [], 0⟩
noncomputable def F_numbers_Every_TowHull : ((List TTowHull) × ((TTowHull → Option Bool)) × FuncId × (List V)) → Option (Bool) := fun x => match x with
  | (a0, a1, g, caps) =>
    (loopC (L_numbers_Every_TowHull_1 a1 a0 g caps).step 0).bind fun e => match e with
    | (.inl ()) =>
      some true
    | (.inr r6) =>
      some r6

noncomputable def L_tow_validTow_1 (a0 : TTow) : LoopD (Int × Int) (Int ⊕ Bool) (Unit) where
  step := fun s => match s with
    | (s3, s4) =>
      bif (decide (s4 < ((a0.Rows).length : Int))) then
        (idx? (a0.Rows) (s4)).bind fun x8 =>
        (F_numbers_Within (1, 4, ([((x8).length : Int)] : List Int))).bind fun y9 =>
        bif (!y9) then
          some (.inr (.inr false))
        else
          (F_numbers_Every_TowHull (x8, (fun q => F_tow_validHull (q)), 60, [])).bind fun y10 =>
          bif (!y10) then
            some (.inr (.inr false))
          else
            some (.inl ((wr (s3 + ((x8).length : Int))), (wr (s4 + 1))))
      else
        some (.inr (.inl s3))
  at_ := fun s gh => match s, gh with
    | (s3, s4), () => ⟨[(2, (V.v (.bool (false)))), (3, (V.v (.int .i64 (s3)))), (24, (V.sl (recs (eS eTTowHull) (a0.Rows)) (a0.Rows).length)), (25, (V.v (.int .i64 (((a0.Rows).length : Int))))), (26, (V.v (.int .i64 (s4))))], [], 0⟩
noncomputable def F_tow_validTow : (TTow) → Option (Bool) := fun x => match x with
  | (a0) =>
    (F_tow_validHull (a0.Boat)).bind fun y1 =>
    bif (!y1) then
      some false
    else
      (F_numbers_Within (1, 20000, ([a0.Power] : List Int))).bind fun y2 =>
      bif (!y2) then
        some false
      else
        bif (decide (((a0.Rows).length : Int) > 10)) then
          some false
        else
          (loopC (L_tow_validTow_1 a0).step (0, 0)).bind fun e => match e with
          | (.inl s11) =>
            some (decide (s11 ≤ 30))
          | (.inr r12) =>
            some r12

noncomputable def L_tow_abreast_1 (a0 : List TTowHull) : LoopD (Int × Int × Int × Int) ((Int × Int × Int)) (Unit) where
  step := fun s => match s with
    | (s1, s2, s3, s4) =>
      bif (decide (s1 < ((a0).length : Int))) then
        (idx? (a0) (s1)).bind fun x6 =>
        some (.inl ((wr (s1 + 1)), (minmax true s2 x6.Length), (wr (s3 + x6.Width)), (wr (s4 + x6.Mass))))
      else
        some (.inr (s2, s3, s4))
  at_ := fun s gh => match s, gh with
    | (s1, s2, s3, s4), () => ⟨[(2, (V.box 0 0)), (3, (V.box 4 0)), (9, (V.sl (recs eTTowHull (a0)) (a0).length)), (10, (V.v (.int .i64 (((a0).length : Int))))), (11, (V.v (.int .i64 (s1))))], [(0, Bx.var [(V.v (.int .i64 (0))), (V.v (.int .i64 (0))), (V.v (.int .i64 (0))), (V.v (.int .i64 (0)))] false), (4, Bx.var [(V.v (.int .i64 (s2))), (V.v (.int .i64 (s3))), (V.v (.int .i64 (s4))), (V.v (.int .i64 (((a0).length : Int))))] false)], 5⟩
noncomputable def F_tow_abreast : ((List TTowHull)) → Option (TTowSize) := fun x => match x with
  | (a0) =>
    (loopC (L_tow_abreast_1 a0).step (0, 0, 0, 0)).bind fun e => match e with
    | (s7, s8, s9) =>
      some (⟨s7, s8, s9, ((a0).length : Int)⟩ : TTowSize)

noncomputable def L_tow_Measure_1 (a0 : TTow) : LoopD (Int × Int × Int × Int × Int) ((Int × Int × Int × Int)) (Unit) where
  step := fun s => match s with
    | (s2, s3, s4, s5, s6) =>
      bif (decide (s2 < ((a0.Rows).length : Int))) then
        (idx? (a0.Rows) (s2)).bind fun x9 =>
        (F_tow_abreast (x9)).bind fun y10 =>
        some (.inl ((wr (s2 + 1)), (wr (s3 + y10.Length)), (minmax true s4 y10.Width), (wr (s5 + y10.Mass)), (wr (s6 + y10.Hulls))))
      else
        some (.inr (s3, s4, s5, s6))
  at_ := fun s gh => match s, gh with
    | (s2, s3, s4, s5, s6), () => ⟨[(2, (V.box 1 0)), (3, (V.v (.int .i64 (0)))), (4, (V.box 16 0)), (23, (V.sl (recs (eS eTTowHull) (a0.Rows)) (a0.Rows).length)), (24, (V.v (.int .i64 (((a0.Rows).length : Int))))), (25, (V.v (.int .i64 (s2))))], [(1, Bx.var [(V.v (.int .i64 (0))), (V.v (.int .i64 (0))), (V.v (.int .i64 (0))), (V.v (.int .i64 (0)))] false), (16, Bx.var [(V.v (.int .i64 (s3))), (V.v (.int .i64 (s4))), (V.v (.int .i64 (s5))), (V.v (.int .i64 (s6)))] false)], 17⟩
noncomputable def F_tow_Measure : (TTow) → Option (TTowSize × Int) := fun x => match x with
  | (a0) =>
    (F_tow_validTow (a0)).bind fun y1 =>
    bif (!y1) then
      some ((⟨0, 0, 0, 0⟩ : TTowSize), 2)
    else
      (loopC (L_tow_Measure_1 a0).step (0, a0.Boat.Length, a0.Boat.Width, a0.Boat.Mass, 0)).bind fun e => match e with
      | (s11, s12, s13, s14) =>
        some ((⟨s11, s12, s13, s14⟩ : TTowSize), 0)

noncomputable def F_thalwegref03_in : (Int × Int × Int) → Option (Bool) := fun x => match x with
  | (a0, a1, a2) =>
    bif (decide (a0 ≥ a1)) then
      some (decide (a0 ≤ a2))
    else
      some false

noncomputable def F_thalwegref03_Hull : (TTowHull) → Option (Bool) := fun x => match x with
  | (a0) =>
    (F_thalwegref03_in (a0.Length, 1, 200)).bind fun y1 =>
    bif y1 then
      (F_thalwegref03_in (a0.Width, 1, 30)).bind fun y2 =>
      bif y2 then
        (F_thalwegref03_in (a0.Mass, 0, 10000)).bind fun y3 =>
        some y3
      else
        some false
    else
      some false

noncomputable def L_thalwegref03_Tow_1 (s3 : Int) (x18 : List TTowHull) (s4 : Int) (a0 : TTow) : LoopD (Int) (Unit ⊕ Bool) (Unit) where
  step := fun s => match s with
    | s21 =>
      (idx? (a0.Rows) (s4)).bind fun x26 =>
      bif (decide (s21 < ((x26).length : Int))) then
        (idx? (a0.Rows) (s4)).bind fun x27 =>
        (idx? (x27) (s21)).bind fun x28 =>
        (F_thalwegref03_Hull (x28)).bind fun y29 =>
        bif (!y29) then
          some (.inr (.inr false))
        else
          some (.inl (wr (s21 + 1)))
      else
        some (.inr (.inl ()))
  at_ := fun s gh => match s, gh with
    | s21, () => ⟨[(1, (V.box 0 0)), (2, (V.v (.bool (false)))), (3, (V.v (.int .i64 ((wr (s3 + ((x18).length : Int))))))), (4, (V.v (.int .i64 (s4)))), (5, (V.v (.int .i64 (s21))))], [(0, Bx.var [(V.v (.int .i64 (a0.Boat.Length))), (V.v (.int .i64 (a0.Boat.Width))), (V.v (.int .i64 (a0.Boat.Mass))), (V.v (.int .i64 (a0.Power))), (V.sl (recs (eS eTTowHull) (a0.Rows)) (a0.Rows).length)] false)], 1⟩
noncomputable def L_thalwegref03_Tow_2 (a0 : TTow) : LoopD (Int × Int) (Int ⊕ Bool) (Unit) where
  step := fun s => match s with
    | (s3, s4) =>
      bif (decide (s4 < ((a0.Rows).length : Int))) then
        (idx? (a0.Rows) (s4)).bind fun x18 =>
        (idx? (a0.Rows) (s4)).bind fun x19 =>
        (F_thalwegref03_in (((x19).length : Int), 1, 4)).bind fun y20 =>
        bif (!y20) then
          some (.inr (.inr false))
        else
          (loopC (L_thalwegref03_Tow_1 s3 x18 s4 a0).step 0).bind fun e => match e with
          | (.inl ()) =>
            some (.inl ((wr (s3 + ((x18).length : Int))), (wr (s4 + 1))))
          | (.inr r30) =>
            some (.inr (.inr r30))
      else
        some (.inr (.inl s3))
  at_ := fun s gh => match s, gh with
    | (s3, s4), () => ⟨[(1, (V.box 0 0)), (2, (V.v (.bool (false)))), (3, (V.v (.int .i64 (s3)))), (4, (V.v (.int .i64 (s4))))], [(0, Bx.var [(V.v (.int .i64 (a0.Boat.Length))), (V.v (.int .i64 (a0.Boat.Width))), (V.v (.int .i64 (a0.Boat.Mass))), (V.v (.int .i64 (a0.Power))), (V.sl (recs (eS eTTowHull) (a0.Rows)) (a0.Rows).length)] false)], 1⟩
noncomputable def F_thalwegref03_Tow : (TTow) → Option (Bool) := fun x => match x with
  | (a0) =>
    (F_thalwegref03_Hull (a0.Boat)).bind fun y1 =>
    bif (!y1) then
      some false
    else
      (F_thalwegref03_in (a0.Power, 1, 20000)).bind fun y2 =>
      bif (!y2) then
        some false
      else
        bif (decide (((a0.Rows).length : Int) > 10)) then
          some false
        else
          (loopC (L_thalwegref03_Tow_2 a0).step (0, 0)).bind fun e => match e with
          | (.inl s31) =>
            some (decide (s31 ≤ 30))
          | (.inr r32) =>
            some r32

noncomputable def L_thalwegref03_Measure_1 (s1 : Int) (a0 : TTow) (s2 : Int) (s3 : Int) : LoopD (Int × Int × Int × Int × Int) ((Int × Int × Int × Int)) (Unit) where
  step := fun s => match s with
    | (s21, s22, s23, s24, s25) =>
      (idx? (a0.Rows) (s1)).bind fun x29 =>
      bif (decide (s23 < ((x29).length : Int))) then
        (idx? (a0.Rows) (s1)).bind fun x30 =>
        (idx? (x30) (s23)).bind fun x31 =>
        some (.inl ((minmax true s21 x31.Length), (wr (s22 + x31.Width)), (wr (s23 + 1)), (wr (s24 + x31.Mass)), (wr (s25 + 1))))
      else
        some (.inr (s21, s22, s24, s25))
  at_ := fun s gh => match s, gh with
    | (s21, s22, s23, s24, s25), () => ⟨[(1, (V.box 0 0)), (2, (V.box 1 0)), (3, (V.box 12 0)), (4, (V.v (.int .i64 (s1)))), (5, (V.v (.int .i64 (s21)))), (6, (V.v (.int .i64 (s22)))), (7, (V.v (.int .i64 (s23))))], [(0, Bx.var [(V.v (.int .i64 (a0.Boat.Length))), (V.v (.int .i64 (a0.Boat.Width))), (V.v (.int .i64 (a0.Boat.Mass))), (V.v (.int .i64 (a0.Power))), (V.sl (recs (eS eTTowHull) (a0.Rows)) (a0.Rows).length)] false), (1, Bx.var [(V.v (.int .i64 (0))), (V.v (.int .i64 (0))), (V.v (.int .i64 (0))), (V.v (.int .i64 (0)))] false), (12, Bx.var [(V.v (.int .i64 (s2))), (V.v (.int .i64 (s3))), (V.v (.int .i64 (s24))), (V.v (.int .i64 (s25)))] false)], 13⟩
noncomputable def L_thalwegref03_Measure_2 (a0 : TTow) : LoopD (Int × Int × Int × Int × Int) ((Int × Int × Int × Int)) (Unit) where
  step := fun s => match s with
    | (s1, s2, s3, s4, s5) =>
      bif (decide (s1 < ((a0.Rows).length : Int))) then
        (loopC (L_thalwegref03_Measure_1 s1 a0 s2 s3).step (0, 0, 0, s4, s5)).bind fun e => match e with
        | (s32, s33, s34, s35) =>
          some (.inl ((wr (s1 + 1)), (wr (s2 + s32)), (minmax true s3 s33), s34, s35))
      else
        some (.inr (s2, s3, s4, s5))
  at_ := fun s gh => match s, gh with
    | (s1, s2, s3, s4, s5), () => ⟨[(1, (V.box 0 0)), (2, (V.box 1 0)), (3, (V.box 12 0)), (4, (V.v (.int .i64 (s1))))], [(0, Bx.var [(V.v (.int .i64 (a0.Boat.Length))), (V.v (.int .i64 (a0.Boat.Width))), (V.v (.int .i64 (a0.Boat.Mass))), (V.v (.int .i64 (a0.Power))), (V.sl (recs (eS eTTowHull) (a0.Rows)) (a0.Rows).length)] false), (1, Bx.var [(V.v (.int .i64 (0))), (V.v (.int .i64 (0))), (V.v (.int .i64 (0))), (V.v (.int .i64 (0)))] false), (12, Bx.var [(V.v (.int .i64 (s2))), (V.v (.int .i64 (s3))), (V.v (.int .i64 (s4))), (V.v (.int .i64 (s5)))] false)], 13⟩
noncomputable def F_thalwegref03_Measure : (TTow) → Option (TTowSize) := fun x => match x with
  | (a0) =>
    (loopC (L_thalwegref03_Measure_2 a0).step (0, a0.Boat.Length, a0.Boat.Width, a0.Boat.Mass, 0)).bind fun e => match e with
    | (s36, s37, s38, s39) =>
      some (⟨s36, s37, s38, s39⟩ : TTowSize)

noncomputable def L_thalweglaw03_TowMeasures_1 (a0 : TTow) : LoopD (Int × (List (List TTowHull))) (((List (List TTowHull))) ⊕ Bool) (Unit) where
  step := fun s => match s with
    | (s1, s2) =>
      bif (decide (s1 < ((a0.Rows).length : Int))) then
        (idx? (a0.Rows) (s1)).bind fun x9 =>
        bif (decide (((x9).length : Int) > 8)) then
          (F_thalweglaw03_known ()).bind fun y10 =>
          some (.inr (.inr y10))
        else
          bif (decide (((a0.Rows).length : Int) > 15)) then
            (F_thalweglaw03_known ()).bind fun y11 =>
            some (.inr (.inr y11))
          else
            (idx? (a0.Rows) (s1)).bind fun x12 =>
            (F_thalweglaw03_hulls (x12)).bind fun y13 =>
            (app? (s2) (([y13] : List (List TTowHull))) 24).bind fun l14 =>
            some (.inl ((wr (s1 + 1)), l14))
      else
        some (.inr (.inl s2))
  at_ := fun s gh => match s, gh with
    | (s1, s2), () => ⟨[(1, (V.box 0 0)), (2, (V.v (.bool (false)))), (3, (V.box 3 0)), (4, (V.v (.int .i64 (s1))))], [(0, Bx.var [(V.v (.int .i64 (a0.Boat.Length))), (V.v (.int .i64 (a0.Boat.Width))), (V.v (.int .i64 (a0.Boat.Mass))), (V.v (.int .i64 (a0.Power))), (V.sl (recs (eS eTTowHull) (a0.Rows)) (a0.Rows).length)] false), (3, Bx.var [(V.v (.int .i64 (a0.Boat.Length))), (V.v (.int .i64 (a0.Boat.Width))), (V.v (.int .i64 (a0.Boat.Mass))), (V.v (.int .i64 (a0.Power))), (V.osl 4 (s2).length)] false), (4, Bx.row 27 1 (recs (eS eTTowHull) (s2)) 0)], 5⟩
noncomputable def L_thalweglaw03_TowMeasures_2 (y16 : TTowSize × Int) (s17 : Int) (a0 : TTow) (s15 : List (List TTowHull)) : LoopD (Int) (Unit ⊕ Bool) (Nat) where
  step := fun s => match s with
    | s32 =>
      (idx? (a0.Rows) (s17)).bind fun x39 =>
      bif (decide (s32 < ((x39).length : Int))) then
        (idx? (s15) (s17)).bind fun x40 =>
        (idx? (x40) (s32)).bind fun x42 =>
        (idx? (a0.Rows) (s17)).bind fun x43 =>
        (idx? (x43) (s32)).bind fun x44 =>
        bif (!(x42.Length == x44.Length && (x42.Width == x44.Width && (x42.Mass == x44.Mass && true)))) then
          some (.inr (.inr false))
        else
          some (.inl (wr (s32 + 1)))
      else
        some (.inr (.inl ()))
  at_ := fun s gh => match s, gh with
    | s32, p4 => ⟨[(1, (V.box 0 0)), (2, (V.v (.bool (false)))), (3, (V.box 3 0)), (5, (V.box 15 0)), (6, (V.v (.int .i64 (y16.2)))), (7, (V.v (.int .i64 (s17)))), (8, (V.v (.int .i64 (s32))))], [(0, Bx.var [(V.v (.int .i64 (a0.Boat.Length))), (V.v (.int .i64 (a0.Boat.Width))), (V.v (.int .i64 (a0.Boat.Mass))), (V.v (.int .i64 (a0.Power))), (V.sl (recs (eS eTTowHull) (a0.Rows)) (a0.Rows).length)] false), (3, Bx.var [(V.v (.int .i64 (a0.Boat.Length))), (V.v (.int .i64 (a0.Boat.Width))), (V.v (.int .i64 (a0.Boat.Mass))), (V.v (.int .i64 (a0.Power))), (V.osl 4 (s15).length)] false), (4, Bx.row 27 1 (recs (eS eTTowHull) (s15)) p4), (15, Bx.var [(V.v (.int .i64 (y16.1.Length))), (V.v (.int .i64 (y16.1.Width))), (V.v (.int .i64 (y16.1.Mass))), (V.v (.int .i64 (y16.1.Hulls)))] false)], 16⟩
noncomputable def L_thalweglaw03_TowMeasures_3 (y16 : TTowSize × Int) (a0 : TTow) (s15 : List (List TTowHull)) : LoopD (Int) (Unit ⊕ Bool) (Nat) where
  step := fun s => match s with
    | s17 =>
      bif (decide (s17 < ((a0.Rows).length : Int))) then
        (loopC (L_thalweglaw03_TowMeasures_2 y16 s17 a0 s15).step 0).bind fun e => match e with
        | (.inl ()) =>
          some (.inl (wr (s17 + 1)))
        | (.inr r45) =>
          some (.inr (.inr r45))
      else
        some (.inr (.inl ()))
  at_ := fun s gh => match s, gh with
    | s17, p4 => ⟨[(1, (V.box 0 0)), (2, (V.v (.bool (false)))), (3, (V.box 3 0)), (5, (V.box 15 0)), (6, (V.v (.int .i64 (y16.2)))), (7, (V.v (.int .i64 (s17))))], [(0, Bx.var [(V.v (.int .i64 (a0.Boat.Length))), (V.v (.int .i64 (a0.Boat.Width))), (V.v (.int .i64 (a0.Boat.Mass))), (V.v (.int .i64 (a0.Power))), (V.sl (recs (eS eTTowHull) (a0.Rows)) (a0.Rows).length)] false), (3, Bx.var [(V.v (.int .i64 (a0.Boat.Length))), (V.v (.int .i64 (a0.Boat.Width))), (V.v (.int .i64 (a0.Boat.Mass))), (V.v (.int .i64 (a0.Power))), (V.osl 4 (s15).length)] false), (4, Bx.row 27 1 (recs (eS eTTowHull) (s15)) p4), (15, Bx.var [(V.v (.int .i64 (y16.1.Length))), (V.v (.int .i64 (y16.1.Width))), (V.v (.int .i64 (y16.1.Mass))), (V.v (.int .i64 (y16.1.Hulls)))] false)], 16⟩
noncomputable def F_thalweglaw03_TowMeasures : (TTow) → Option (Bool) := fun x => match x with
  | (a0) =>
    (loopC (L_thalweglaw03_TowMeasures_1 a0).step (0, ([] : List (List TTowHull)))).bind fun e => match e with
    | (.inl s15) =>
      (F_tow_Measure ((⟨a0.Boat, a0.Power, s15⟩ : TTow))).bind fun y16 =>
      (loopC (L_thalweglaw03_TowMeasures_3 y16 a0 s15).step 0).bind fun e => match e with
      | (.inl ()) =>
        (F_thalwegref03_Tow (a0)).bind fun y46 =>
        bif (!y46) then
          bif (y16.2 == 2) then
            bif (y16.1.Length == 0 && (y16.1.Width == 0 && (y16.1.Mass == 0 && (y16.1.Hulls == 0 && true)))) then
              (F_thalweglaw03_known ()).bind fun y47 =>
              some y47
            else
              some false
          else
            some false
        else
          bif (y16.2 == 0) then
            (F_thalwegref03_Measure (a0)).bind fun y48 =>
            bif (y16.1.Length == y48.Length && (y16.1.Width == y48.Width && (y16.1.Mass == y48.Mass && (y16.1.Hulls == y48.Hulls && true)))) then
              (F_thalweglaw03_known ()).bind fun y49 =>
              some y49
            else
              some false
          else
            some false
      | (.inr r50) =>
        some r50
    | (.inr r51) =>
      some r51

noncomputable def F_numbers_Valid : (TBounds × Int × Int) → Option (Bool) := fun x => match x with
  | (a0, a1, a2) =>
    bif (decide (a0.Low ≤ a0.High)) then
      (F_numbers_Within (a1, a2, ([a0.Low, a0.High] : List Int))).bind fun y1 =>
      some y1
    else
      some false

noncomputable def F_tow_canStop : (Int × Int × TBounds) → Option (Bool) := fun x => match x with
  | (a0, a1, a2) =>
    (F_numbers_Within (0, 400000, ([a0] : List Int))).bind fun y1 =>
    bif y1 then
      (F_numbers_Within (1, 20000, ([a1] : List Int))).bind fun y2 =>
      bif y2 then
        (F_numbers_Valid (a2, 1, 1000)).bind fun y3 =>
        some y3
      else
        some false
    else
      some false

noncomputable def F_tow_stop_1 : (Int × ((Int × Int → Option Int)) × FuncId × (List V) × Int × Int × Int) → Option (Int) := fun x => match x with
  | (a0, a1, g, caps, c0, c1, c2) =>
    (a1 ((wr ((wr ((wr ((wr ((wr (c0 * 5)) * 864)) * c1)) * a0)) + (wr ((wr ((wr (c2 * 1000)) * c0)) * c0)))), (wr ((wr (2592 * c1)) * a0)))).bind fun y1 =>
    some y1

noncomputable def F_numbers_Down : (Int × Int) → Option (Int) := fun x => match x with
  | (a0, a1) =>
    (nz? (a1)).bind fun _ =>
    bif (decide ((Int.tmod a0 a1) < 0)) then
      (nz? (a1)).bind fun _ =>
      some (wr ((wr (Int.tdiv a0 a1)) - 1))
    else
      (nz? (a1)).bind fun _ =>
      some (wr (Int.tdiv a0 a1))

noncomputable def F_numbers_Up : (Int × Int) → Option (Int) := fun x => match x with
  | (a0, a1) =>
    (F_numbers_Down ((wr (0 - a0)), a1)).bind fun y1 =>
    some (wr (0 - y1))

noncomputable def F_tow_stop : (Int × Int × TBounds × Int) → Option (TBounds) := fun x => match x with
  | (a0, a1, a2, a3) =>
    (F_tow_stop_1 (a2.High, (fun q => F_numbers_Down (q.1, q.2)), 68, [], a3, a1, a0)).bind fun y1 =>
    (F_tow_stop_1 (a2.Low, (fun q => F_numbers_Up (q.1, q.2)), 69, [], a3, a1, a0)).bind fun y2 =>
    some (⟨y1, y2⟩ : TBounds)

noncomputable def F_tow_Stop : (Int × Int × TBounds × Int) → Option (TBounds × Int) := fun x => match x with
  | (a0, a1, a2, a3) =>
    (F_tow_canStop (a0, a1, a2)).bind fun y1 =>
    bif (!y1) then
      some ((⟨0, 0⟩ : TBounds), 3)
    else
      (F_numbers_Within (0, 400, ([a3] : List Int))).bind fun y2 =>
      bif (!y2) then
        some ((⟨0, 0⟩ : TBounds), 3)
      else
        (F_tow_stop (a0, a1, a2, a3)).bind fun y3 =>
        some (y3, 0)

noncomputable def L_sort_Search_1 (a1 : (Int → Option Bool)) (g : FuncId) (caps : List V) : LoopD (Int × Int) (Int) (Unit) where
  step := fun s => match s with
    | (s1, s2) =>
      bif (decide (s1 < s2)) then
        (a1 ((wr ((Int.fdiv ((IntKind.wrap .u64 ((wr (s1 + s2))))) 2))))).bind fun y4 =>
        bif (!y4) then
          some (.inl ((wr ((wr ((Int.fdiv ((IntKind.wrap .u64 ((wr (s1 + s2))))) 2))) + 1)), s2))
        else
          some (.inl (s1, (wr ((Int.fdiv ((IntKind.wrap .u64 ((wr (s1 + s2))))) 2)))))
      else
        some (.inr s1)
  at_ := fun s gh => match s, gh with
    | (s1, s2), () => ⟨[(1, (V.fn g caps)), (4, (V.v (.int .i64 (0)))), (5, (V.v (.int .i64 (s1)))), (6, (V.v (.int .i64 (s2))))], [], 0⟩
noncomputable def F_sort_Search : (Int × ((Int → Option Bool)) × FuncId × (List V)) → Option (Int) := fun x => match x with
  | (a0, a1, g, caps) =>
    (loopC (L_sort_Search_1 a1 g caps).step (0, a0)).bind fun e => match e with
    | s5 =>
      some s5

noncomputable def F_tow_Safe_1 : (Int × Int × Int × TBounds × Int) → Option (Bool) := fun x => match x with
  | (a0, c0, c1, c2, c3) =>
    (F_tow_stop (c0, c1, c2, (wr (a0 + 1)))).bind fun y1 =>
    some (decide (y1.High > c3))

noncomputable def F_tow_Safe : (Int × Int × TBounds × Int) → Option (Int × Int) := fun x => match x with
  | (a0, a1, a2, a3) =>
    (F_tow_canStop (a0, a1, a2)).bind fun y1 =>
    bif (!y1) then
      some (0, 3)
    else
      (F_numbers_Within (0, 100000, ([a3] : List Int))).bind fun y2 =>
      bif (!y2) then
        some (0, 3)
      else
        (F_sort_Search (400, (fun q => F_tow_Safe_1 (q, a0, a1, a2, a3)), 44, [(V.fptr [(V.v (.int .i64 (a0)))]), (V.fptr [(V.v (.int .i64 (a1)))]), (V.fptr [(V.v (.int .i64 (a2.Low))), (V.v (.int .i64 (a2.High)))]), (V.fptr [(V.v (.int .i64 (a3)))])])).bind fun y3 =>
        some (y3, 0)

noncomputable def F_thalwegref03_valid : (TBounds × Int × Int) → Option (Bool) := fun x => match x with
  | (a0, a1, a2) =>
    (F_thalwegref03_in (a0.Low, a1, a2)).bind fun y1 =>
    bif y1 then
      (F_thalwegref03_in (a0.High, a0.Low, a2)).bind fun y2 =>
      some y2
    else
      some false

noncomputable def F_thalwegref03_Stops : (Int × Int × TBounds × Int) → Option (Bool) := fun x => match x with
  | (a0, a1, a2, a3) =>
    (F_thalwegref03_in (a0, 0, 400000)).bind fun y1 =>
    bif y1 then
      (F_thalwegref03_in (a1, 1, 20000)).bind fun y2 =>
      bif y2 then
        (F_thalwegref03_valid (a2, 1, 1000)).bind fun y3 =>
        bif y3 then
          (F_thalwegref03_in (a3, 0, 400)).bind fun y4 =>
          some y4
        else
          some false
      else
        some false
    else
      some false

noncomputable def F_thalwegref03_Stop : (Int × Int × TBounds × Int) → Option (TBounds) := fun x => match x with
  | (a0, a1, a2, a3) =>
    (nz? ((wr ((wr (2592 * a1)) * a2.High)))).bind fun _ =>
    (nz? ((wr ((wr (2592 * a1)) * a2.Low)))).bind fun _ =>
    some (⟨(wr (Int.tdiv (wr ((wr (Int.tdiv (wr ((wr (a3 * 5)) * (wr ((wr (2592 * a1)) * a2.High)))) 3)) + (wr ((wr ((wr (a0 * 1000)) * a3)) * a3)))) (wr ((wr (2592 * a1)) * a2.High)))), (wr (Int.tdiv (wr ((wr ((wr ((wr (Int.tdiv (wr ((wr (a3 * 5)) * (wr ((wr (2592 * a1)) * a2.Low)))) 3)) + (wr ((wr ((wr (a0 * 1000)) * a3)) * a3)))) + (wr ((wr (2592 * a1)) * a2.Low)))) - 1)) (wr ((wr (2592 * a1)) * a2.Low))))⟩ : TBounds)

noncomputable def L_thalwegref03_Safe_1 (a0 : Int) (a1 : Int) (a3 : Int) (a2 : TBounds) : LoopD (Int × Int) (Int) (Unit) where
  step := fun s => match s with
    | (s1, s2) =>
      bif (decide (s1 ≤ 400)) then
        (F_thalwegref03_Stop (a0, a1, a2, s1)).bind fun y4 =>
        bif (decide (y4.High ≤ a3)) then
          some (.inl ((wr (s1 + 1)), s1))
        else
          some (.inl ((wr (s1 + 1)), s2))
      else
        some (.inr s2)
  at_ := fun s gh => match s, gh with
    | (s1, s2), () => ⟨[(0, (V.v (.int .i64 (a0)))), (1, (V.v (.int .i64 (a1)))), (3, (V.v (.int .i64 (a3)))), (6, (V.box 0 0)), (8, (V.v (.int .i64 (0)))), (9, (V.v (.int .i64 (s2)))), (10, (V.v (.int .i64 (s1))))], [(0, Bx.var [(V.v (.int .i64 (a2.Low))), (V.v (.int .i64 (a2.High)))] false)], 1⟩
noncomputable def F_thalwegref03_Safe : (Int × Int × TBounds × Int) → Option (Int) := fun x => match x with
  | (a0, a1, a2, a3) =>
    (loopC (L_thalwegref03_Safe_1 a0 a1 a3 a2).step (0, 0)).bind fun e => match e with
    | s5 =>
      some s5

noncomputable def F_thalweglaw03_TowStops : (Tanon37 × TBounds × Tanon37) → Option (Bool) := fun x => match x with
  | (a0, a1, a2) =>
    (F_tow_Stop (a0.a0, a0.a1, a1, a2.a0)).bind fun y1 =>
    (F_tow_Safe (a0.a0, a0.a1, a1, a2.a1)).bind fun y2 =>
    (F_thalwegref03_Stops (a0.a0, a0.a1, a1, a2.a0)).bind fun y3 =>
    bif (!y3) then
      bif (y1.2 != 3) then
        some false
      else
        bif (!(y1.1.Low == 0 && (y1.1.High == 0 && true))) then
          some false
        else
          (F_thalwegref03_Stops (a0.a0, a0.a1, a1, 0)).bind fun y4 =>
          bif (!y4) then
            bif (y2.2 == 3) then
              bif (y2.1 == 0) then
                (F_thalweglaw03_known ()).bind fun y5 =>
                some y5
              else
                some false
            else
              some false
          else
            bif (decide (a2.a1 < 0)) then
              bif (y2.2 == 3) then
                bif (y2.1 == 0) then
                  (F_thalweglaw03_known ()).bind fun y6 =>
                  some y6
                else
                  some false
              else
                some false
            else
              bif (decide (a2.a1 > 100000)) then
                bif (y2.2 == 3) then
                  bif (y2.1 == 0) then
                    (F_thalweglaw03_known ()).bind fun y7 =>
                    some y7
                  else
                    some false
                else
                  some false
              else
                bif (y2.2 == 0) then
                  (F_thalwegref03_Safe (a0.a0, a0.a1, a1, a2.a1)).bind fun y8 =>
                  bif (y2.1 == y8) then
                    (F_thalweglaw03_known ()).bind fun y9 =>
                    some y9
                  else
                    some false
                else
                  some false
    else
      bif (y1.2 != 0) then
        some false
      else
        (F_thalwegref03_Stop (a0.a0, a0.a1, a1, a2.a0)).bind fun y10 =>
        bif (!(y1.1.Low == y10.Low && (y1.1.High == y10.High && true))) then
          some false
        else
          (F_thalwegref03_Stops (a0.a0, a0.a1, a1, 0)).bind fun y11 =>
          bif (!y11) then
            bif (y2.2 == 3) then
              bif (y2.1 == 0) then
                (F_thalweglaw03_known ()).bind fun y12 =>
                some y12
              else
                some false
            else
              some false
          else
            bif (decide (a2.a1 < 0)) then
              bif (y2.2 == 3) then
                bif (y2.1 == 0) then
                  (F_thalweglaw03_known ()).bind fun y13 =>
                  some y13
                else
                  some false
              else
                some false
            else
              bif (decide (a2.a1 > 100000)) then
                bif (y2.2 == 3) then
                  bif (y2.1 == 0) then
                    (F_thalweglaw03_known ()).bind fun y14 =>
                    some y14
                  else
                    some false
                else
                  some false
              else
                bif (y2.2 == 0) then
                  (F_thalwegref03_Safe (a0.a0, a0.a1, a1, a2.a1)).bind fun y15 =>
                  bif (y2.1 == y15) then
                    (F_thalweglaw03_known ()).bind fun y16 =>
                    some y16
                  else
                    some false
                else
                  some false

noncomputable def F_thalweglaw03_copied : (TVoyage) → Option (TVoyage) := fun x => match x with
  | (a0) =>
    (app? (([] : List TRun)) (a0.Runs) 48).bind fun l1 =>
    some (⟨a0.Start, l1, a0.Length, a0.Width⟩ : TVoyage)

noncomputable def L_numbers_Every_Run_1 (a1 : (TRun → Option Bool)) (a0 : List TRun) (g : FuncId) (caps : List V) : LoopD (Int) (Unit ⊕ Bool) (Unit) where
  step := fun s => match s with
    | s1 =>
      bif (decide (s1 < ((a0).length : Int))) then
        (idx? (a0) (s1)).bind fun x4 =>
        (a1 (x4)).bind fun y5 =>
        bif (!y5) then
          some (.inr (.inr false))
        else
          some (.inl (wr (s1 + 1)))
      else
        some (.inr (.inl ()))
  at_ := fun s gh => match s, gh with
    | s1, () => ⟨[(1, (V.fn g caps)), (4, (V.v (.bool (false)))), (7, (V.sl (recs eTRun (a0)) (a0).length)), (8, (V.v (.int .i64 (((a0).length : Int))))), (9, (V.v (.int .i64 (s1))))], [], 0⟩
noncomputable def F_numbers_Every_Run : ((List TRun) × ((TRun → Option Bool)) × FuncId × (List V)) → Option (Bool) := fun x => match x with
  | (a0, a1, g, caps) =>
    (loopC (L_numbers_Every_Run_1 a1 a0 g caps).step 0).bind fun e => match e with
    | (.inl ()) =>
      some true
    | (.inr r6) =>
      some r6

noncomputable def F_tow_validRun : (TRun) → Option (Bool) := fun x => match x with
  | (a0) =>
    (F_numbers_Within (0, 100000, ([a0.From, a0.To] : List Int))).bind fun y1 =>
    bif y1 then
      bif (a0.From != a0.To) then
        (F_numbers_Valid (a0.Speed, 1, 400)).bind fun y2 =>
        bif y2 then
          (F_numbers_Valid (a0.Wait, 0, 5000)).bind fun y3 =>
          some y3
        else
          some false
      else
        some false
    else
      some false

noncomputable def F_tow_down : (TRun) → Option (Bool) := fun x => match x with
  | (a0) =>
    some (decide (a0.From < a0.To))

noncomputable def L_tow_joined_1 (a0 : List TRun) : LoopD (Int) (Unit ⊕ Bool) (Unit) where
  step := fun s => match s with
    | s1 =>
      bif (decide (s1 < ((a0).length : Int))) then
        (idx? (a0) (s1)).bind fun x8 =>
        (idx? (a0) ((wr (s1 - 1)))).bind fun x9 =>
        bif (x8.From != x9.To) then
          some (.inr (.inr false))
        else
          (idx? (a0) (s1)).bind fun x10 =>
          (F_tow_down (x10)).bind fun y11 =>
          (idx? (a0) ((wr (s1 - 1)))).bind fun x12 =>
          (F_tow_down (x12)).bind fun y13 =>
          bif (!(y11 == y13)) then
            some (.inr (.inr false))
          else
            some (.inl (wr (s1 + 1)))
      else
        some (.inr (.inl ()))
  at_ := fun s gh => match s, gh with
    | s1, () => ⟨[(0, (V.sl (recs eTRun (a0)) (a0).length)), (2, (V.v (.bool (false)))), (3, (V.v (.int .i64 (s1))))], [], 0⟩
noncomputable def F_tow_joined : ((List TRun)) → Option (Bool) := fun x => match x with
  | (a0) =>
    (loopC (L_tow_joined_1 a0).step 1).bind fun e => match e with
    | (.inl ()) =>
      some true
    | (.inr r14) =>
      some r14

noncomputable def F_tow_Check : (TVoyage) → Option (Int) := fun x => match x with
  | (a0) =>
    (F_numbers_Valid (a0.Start, 0, 1000000)).bind fun y1 =>
    bif (!y1) then
      some 2
    else
      (F_numbers_Within (1, 20, ([((a0.Runs).length : Int)] : List Int))).bind fun y2 =>
      bif (!y2) then
        some 2
      else
        (F_numbers_Within (1, 3000, ([a0.Length] : List Int))).bind fun y3 =>
        bif (!y3) then
          some 2
        else
          (F_numbers_Within (1, 200, ([a0.Width] : List Int))).bind fun y4 =>
          bif (!y4) then
            some 2
          else
            (F_numbers_Every_Run (a0.Runs, (fun q => F_tow_validRun (q)), 48, [])).bind fun y5 =>
            bif (!y5) then
              some 2
            else
              (F_tow_joined (a0.Runs)).bind fun y6 =>
              bif (!y6) then
                some 2
              else
                some 0

noncomputable def F_tow_ends : (TVoyage) → Option (Int × Int) := fun x => match x with
  | (a0) =>
    (idx? (a0.Runs) (0)).bind fun x1 =>
    (idx? (a0.Runs) ((wr (((a0.Runs).length : Int) - 1)))).bind fun x2 =>
    some (x1.From, x2.To)

noncomputable def F_tow_covers : (Int × Int × (List Int)) → Option (Bool) := fun x => match x with
  | (a0, a1, a2) =>
    (F_numbers_Within ((minmax false a0 a1), (minmax true a0 a1), a2)).bind fun y1 =>
    some y1

noncomputable def F_tow_onWay : (TVoyage × (List Int)) → Option (Bool) := fun x => match x with
  | (a0, a1) =>
    (F_tow_ends (a0)).bind fun y1 =>
    (F_tow_covers (y1.1, y1.2, a1)).bind fun y2 =>
    some y2

noncomputable def L_numbers_Sum_1 (a0 : List TBounds) : LoopD (Int × Int × Int) ((Int × Int)) (Unit) where
  step := fun s => match s with
    | (s1, s2, s3) =>
      bif (decide (s1 < ((a0).length : Int))) then
        (idx? (a0) (s1)).bind fun x5 =>
        some (.inl ((wr (s1 + 1)), (wr (s2 + x5.Low)), (wr (s3 + x5.High))))
      else
        some (.inr (s2, s3))
  at_ := fun s gh => match s, gh with
    | (s1, s2, s3), () => ⟨[(2, (V.box 0 0)), (3, (V.box 2 0)), (7, (V.sl (recs eTBounds (a0)) (a0).length)), (8, (V.v (.int .i64 (((a0).length : Int))))), (9, (V.v (.int .i64 (s1))))], [(0, Bx.var [(V.v (.int .i64 (0))), (V.v (.int .i64 (0)))] false), (2, Bx.var [(V.v (.int .i64 (s2))), (V.v (.int .i64 (s3)))] false)], 3⟩
noncomputable def F_numbers_Sum : ((List TBounds)) → Option (TBounds) := fun x => match x with
  | (a0) =>
    (loopC (L_numbers_Sum_1 a0).step (0, 0, 0)).bind fun e => match e with
    | (s6, s7) =>
      some (⟨s6, s7⟩ : TBounds)

noncomputable def F_tow_until : (TRun × Int) → Option (TBounds) := fun x => match x with
  | (a0, a1) =>
    (F_numbers_Up ((wr (60 * (minmax true (wr (a1 - a0.From)) (wr (a0.From - a1))))), a0.Speed.High)).bind fun y1 =>
    (F_numbers_Up ((wr (60 * (minmax true (wr (a1 - a0.From)) (wr (a0.From - a1))))), a0.Speed.Low)).bind fun y2 =>
    some (⟨(wr (a0.Wait.Low + y1)), (wr (a0.Wait.High + y2))⟩ : TBounds)

noncomputable def L_tow_arrive_1 (a1 : Int) (a0 : TVoyage) : LoopD (Int × Int × Int × Int) ((Int × Int)) (Unit) where
  step := fun s => match s with
    | (s2, s3, s4, s5) =>
      bif (decide (s3 < ((a0.Runs).length : Int))) then
        (idx? (a0.Runs) (s3)).bind fun x12 =>
        bif (s2 == a1) then
          some (.inr (s4, s5))
        else
          (F_tow_covers (x12.From, x12.To, ([a1] : List Int))).bind fun y13 =>
          bif y13 then
            (F_tow_until (x12, a1)).bind fun y14 =>
            (F_numbers_Sum (([(⟨s4, s5⟩ : TBounds), y14] : List TBounds))).bind fun y15 =>
            some (.inl (a1, (wr (s3 + 1)), y15.Low, y15.High))
          else
            (F_tow_until (x12, x12.To)).bind fun y16 =>
            (F_numbers_Sum (([(⟨s4, s5⟩ : TBounds), y16] : List TBounds))).bind fun y17 =>
            some (.inl (x12.To, (wr (s3 + 1)), y17.Low, y17.High))
      else
        some (.inr (s4, s5))
  at_ := fun s gh => match s, gh with
    | (s2, s3, s4, s5), () => ⟨[(1, (V.v (.int .i64 (a1)))), (4, (V.box 1 0)), (5, (V.box 9 0)), (6, (V.v (.int .i64 (s2)))), (17, (V.sl (recs eTRun (a0.Runs)) (a0.Runs).length)), (18, (V.v (.int .i64 (((a0.Runs).length : Int))))), (19, (V.v (.int .i64 (s3))))], [(1, Bx.var [(V.v (.int .i64 (0))), (V.v (.int .i64 (0)))] false), (9, Bx.var [(V.v (.int .i64 (s4))), (V.v (.int .i64 (s5)))] false)], 10⟩
noncomputable def F_tow_arrive : (TVoyage × Int) → Option (TBounds) := fun x => match x with
  | (a0, a1) =>
    (idx? (a0.Runs) (0)).bind fun x1 =>
    (loopC (L_tow_arrive_1 a1 a0).step (x1.From, 0, a0.Start.Low, a0.Start.High)).bind fun e => match e with
    | (s18, s19) =>
      some (⟨s18, s19⟩ : TBounds)

noncomputable def F_tow_Arrive : (TVoyage × Int) → Option (TBounds × Int) := fun x => match x with
  | (a0, a1) =>
    (F_tow_Check (a0)).bind fun y1 =>
    bif (y1 != 0) then
      some ((⟨0, 0⟩ : TBounds), y1)
    else
      (F_tow_onWay (a0, ([a1] : List Int))).bind fun y2 =>
      bif (!y2) then
        some ((⟨0, 0⟩ : TBounds), 7)
      else
        (F_tow_arrive (a0, a1)).bind fun y3 =>
        some (y3, 0)

noncomputable def L_thalweglaw03_unchanged_1 (a0 : List TVoyage) (a1 : List TVoyage) (s1 : Int) : LoopD (Int) (Unit ⊕ Bool) (Unit) where
  step := fun s => match s with
    | s30 =>
      (idx? (a0) (s1)).bind fun x36 =>
      bif (decide (s30 < ((x36.Runs).length : Int))) then
        (idx? (a0) (s1)).bind fun x37 =>
        (idx? (x37.Runs) (s30)).bind fun x38 =>
        (idx? (a1) (s1)).bind fun x39 =>
        (idx? (x39.Runs) (s30)).bind fun x40 =>
        bif (!(x38.From == x40.From && (x38.To == x40.To && (x38.Speed.Low == x40.Speed.Low && (x38.Speed.High == x40.Speed.High && (x38.Wait.Low == x40.Wait.Low && (x38.Wait.High == x40.Wait.High && true))))))) then
          some (.inr (.inr false))
        else
          some (.inl (wr (s30 + 1)))
      else
        some (.inr (.inl ()))
  at_ := fun s gh => match s, gh with
    | s30, () => ⟨[(0, (V.sl (recs eTVoyage (a0)) (a0).length)), (1, (V.sl (recs eTVoyage (a1)) (a1).length)), (4, (V.v (.bool (false)))), (5, (V.v (.int .i64 (s1)))), (6, (V.v (.int .i64 (s30))))], [], 0⟩
noncomputable def L_thalweglaw03_unchanged_2 (a0 : List TVoyage) (a1 : List TVoyage) : LoopD (Int) (Unit ⊕ Bool) (Unit) where
  step := fun s => match s with
    | s1 =>
      bif (decide (s1 < ((a0).length : Int))) then
        (idx? (a0) (s1)).bind fun x22 =>
        (idx? (a1) (s1)).bind fun x23 =>
        bif (!(x22.Start.Low == x23.Start.Low && (x22.Start.High == x23.Start.High && true))) then
          some (.inr (.inr false))
        else
          (idx? (a0) (s1)).bind fun x24 =>
          (idx? (a1) (s1)).bind fun x25 =>
          bif (x24.Length != x25.Length) then
            some (.inr (.inr false))
          else
            (idx? (a0) (s1)).bind fun x26 =>
            (idx? (a1) (s1)).bind fun x27 =>
            bif (x26.Width != x27.Width) then
              some (.inr (.inr false))
            else
              (idx? (a0) (s1)).bind fun x28 =>
              (idx? (a1) (s1)).bind fun x29 =>
              bif (((x28.Runs).length : Int) != ((x29.Runs).length : Int)) then
                some (.inr (.inr false))
              else
                (loopC (L_thalweglaw03_unchanged_1 a0 a1 s1).step 0).bind fun e => match e with
                | (.inl ()) =>
                  some (.inl (wr (s1 + 1)))
                | (.inr r41) =>
                  some (.inr (.inr r41))
      else
        some (.inr (.inl ()))
  at_ := fun s gh => match s, gh with
    | s1, () => ⟨[(0, (V.sl (recs eTVoyage (a0)) (a0).length)), (1, (V.sl (recs eTVoyage (a1)) (a1).length)), (4, (V.v (.bool (false)))), (5, (V.v (.int .i64 (s1))))], [], 0⟩
noncomputable def F_thalweglaw03_unchanged : ((List TVoyage) × (List TVoyage)) → Option (Bool) := fun x => match x with
  | (a0, a1) =>
    bif (((a0).length : Int) != ((a1).length : Int)) then
      some false
    else
      (loopC (L_thalweglaw03_unchanged_2 a0 a1).step 0).bind fun e => match e with
      | (.inl ()) =>
        some true
      | (.inr r42) =>
        some r42

noncomputable def L_thalwegref03_Voyage_1 (a0 : TVoyage) : LoopD (Int) (Unit ⊕ Bool) (Unit) where
  step := fun s => match s with
    | s5 =>
      bif (decide (s5 < ((a0.Runs).length : Int))) then
        (idx? (a0.Runs) (s5)).bind fun x14 =>
        (F_thalwegref03_in (x14.From, 0, 100000)).bind fun y15 =>
        bif (!y15) then
          some (.inr (.inr false))
        else
          (F_thalwegref03_in (x14.To, 0, 100000)).bind fun y16 =>
          bif (!y16) then
            some (.inr (.inr false))
          else
            bif (x14.From == x14.To) then
              some (.inr (.inr false))
            else
              (F_thalwegref03_valid (x14.Speed, 1, 400)).bind fun y17 =>
              bif (!y17) then
                some (.inr (.inr false))
              else
                (F_thalwegref03_valid (x14.Wait, 0, 5000)).bind fun y18 =>
                bif (!y18) then
                  some (.inr (.inr false))
                else
                  bif (decide (s5 > 0)) then
                    (idx? (a0.Runs) ((wr (s5 - 1)))).bind fun x19 =>
                    bif (x14.From != x19.To) then
                      some (.inr (.inr false))
                    else
                      (idx? (a0.Runs) (0)).bind fun x20 =>
                      (idx? (a0.Runs) (0)).bind fun x21 =>
                      bif (!((decide (x14.To > x14.From)) == (decide (x20.To > x21.From)))) then
                        some (.inr (.inr false))
                      else
                        some (.inl (wr (s5 + 1)))
                  else
                    some (.inl (wr (s5 + 1)))
      else
        some (.inr (.inl ()))
  at_ := fun s gh => match s, gh with
    | s5, () => ⟨[(1, (V.box 0 0)), (2, (V.v (.bool (false)))), (3, (V.v (.int .i64 (s5))))], [(0, Bx.var [(V.v (.int .i64 (a0.Start.Low))), (V.v (.int .i64 (a0.Start.High))), (V.sl (recs eTRun (a0.Runs)) (a0.Runs).length), (V.v (.int .i64 (a0.Length))), (V.v (.int .i64 (a0.Width)))] false)], 1⟩
noncomputable def F_thalwegref03_Voyage : (TVoyage) → Option (Bool) := fun x => match x with
  | (a0) =>
    (F_thalwegref03_valid (a0.Start, 0, 1000000)).bind fun y1 =>
    bif (!y1) then
      some false
    else
      (F_thalwegref03_in (((a0.Runs).length : Int), 1, 20)).bind fun y2 =>
      bif (!y2) then
        some false
      else
        (F_thalwegref03_in (a0.Length, 1, 3000)).bind fun y3 =>
        bif (!y3) then
          some false
        else
          (F_thalwegref03_in (a0.Width, 1, 200)).bind fun y4 =>
          bif (!y4) then
            some false
          else
            (loopC (L_thalwegref03_Voyage_1 a0).step 0).bind fun e => match e with
            | (.inl ()) =>
              some true
            | (.inr r22) =>
              some r22

noncomputable def F_thalwegref03_Ends : (TVoyage) → Option (Int × Int) := fun x => match x with
  | (a0) =>
    (idx? (a0.Runs) (0)).bind fun x1 =>
    (idx? (a0.Runs) ((wr (((a0.Runs).length : Int) - 1)))).bind fun x2 =>
    some (x1.From, x2.To)

noncomputable def F_thalwegref03_between : (Int × Int × Int) → Option (Bool) := fun x => match x with
  | (a0, a1, a2) =>
    bif (decide (a0 ≥ (minmax false a1 a2))) then
      some (decide (a0 ≤ (minmax true a1 a2)))
    else
      some false

noncomputable def F_thalwegref03_On : (TVoyage × Int) → Option (Bool) := fun x => match x with
  | (a0, a1) =>
    (F_thalwegref03_Ends (a0)).bind fun y1 =>
    (F_thalwegref03_between (a1, y1.1, y1.2)).bind fun y2 =>
    some y2

noncomputable def F_thalwegref03_minutes : (Int × Int × Int) → Option (Int) := fun x => match x with
  | (a0, a1, a2) =>
    (nz? (a2)).bind fun _ =>
    some (wr (Int.tdiv (wr ((wr ((wr (60 * (minmax true (wr (a0 - a1)) (wr (a1 - a0))))) + a2)) - 1)) a2))

noncomputable def L_thalwegref03_Arrive_1 (a1 : Int) (a0 : TVoyage) : LoopD (Int × Int × Int) ((Int × Int) ⊕ TBounds) (Unit) where
  step := fun s => match s with
    | (s1, s2, s3) =>
      bif (decide (s1 < ((a0.Runs).length : Int))) then
        (idx? (a0.Runs) (s1)).bind fun x10 =>
        bif (a1 == x10.From) then
          some (.inr (.inr (⟨s2, s3⟩ : TBounds)))
        else
          (F_thalwegref03_between (a1, x10.From, x10.To)).bind fun y11 =>
          bif y11 then
            (F_thalwegref03_minutes (x10.From, a1, x10.Speed.High)).bind fun y12 =>
            (F_thalwegref03_minutes (x10.From, a1, x10.Speed.Low)).bind fun y13 =>
            bif (a1 == a1) then
              some (.inr (.inr (⟨(wr (s2 + (wr (x10.Wait.Low + y12)))), (wr (s3 + (wr (x10.Wait.High + y13))))⟩ : TBounds)))
            else
              some (.inl ((wr (s1 + 1)), (wr (s2 + (wr (x10.Wait.Low + y12)))), (wr (s3 + (wr (x10.Wait.High + y13))))))
          else
            (F_thalwegref03_minutes (x10.From, x10.To, x10.Speed.High)).bind fun y14 =>
            (F_thalwegref03_minutes (x10.From, x10.To, x10.Speed.Low)).bind fun y15 =>
            bif (x10.To == a1) then
              some (.inr (.inr (⟨(wr (s2 + (wr (x10.Wait.Low + y14)))), (wr (s3 + (wr (x10.Wait.High + y15))))⟩ : TBounds)))
            else
              some (.inl ((wr (s1 + 1)), (wr (s2 + (wr (x10.Wait.Low + y14)))), (wr (s3 + (wr (x10.Wait.High + y15))))))
      else
        some (.inr (.inl (s2, s3)))
  at_ := fun s gh => match s, gh with
    | (s1, s2, s3), () => ⟨[(1, (V.v (.int .i64 (a1)))), (2, (V.box 0 0)), (4, (V.box 1 0)), (5, (V.box 4 0)), (6, (V.v (.int .i64 (s1))))], [(0, Bx.var [(V.v (.int .i64 (a0.Start.Low))), (V.v (.int .i64 (a0.Start.High))), (V.sl (recs eTRun (a0.Runs)) (a0.Runs).length), (V.v (.int .i64 (a0.Length))), (V.v (.int .i64 (a0.Width)))] false), (1, Bx.var [(V.v (.int .i64 (0))), (V.v (.int .i64 (0)))] false), (4, Bx.var [(V.v (.int .i64 (s2))), (V.v (.int .i64 (s3)))] false)], 5⟩
noncomputable def F_thalwegref03_Arrive : (TVoyage × Int) → Option (TBounds) := fun x => match x with
  | (a0, a1) =>
    (loopC (L_thalwegref03_Arrive_1 a1 a0).step (0, a0.Start.Low, a0.Start.High)).bind fun e => match e with
    | (.inl (s16, s17)) =>
      some (⟨s16, s17⟩ : TBounds)
    | (.inr r18) =>
      some r18

noncomputable def F_thalweglaw03_TowArrives : (TVoyage × Int) → Option (Bool) := fun x => match x with
  | (a0, a1) =>
    bif (decide (((a0.Runs).length : Int) > 25)) then
      (F_thalweglaw03_known ()).bind fun y1 =>
      some y1
    else
      (F_thalweglaw03_copied (a0)).bind fun y2 =>
      (F_tow_Check (y2)).bind fun y3 =>
      (F_tow_Arrive (y2, a1)).bind fun y4 =>
      (F_thalweglaw03_unchanged (([y2] : List TVoyage), ([a0] : List TVoyage))).bind fun y5 =>
      bif (!y5) then
        some false
      else
        (F_thalwegref03_Voyage (a0)).bind fun y6 =>
        bif (!y6) then
          bif (y3 == 2) then
            bif (y4.2 == y3) then
              bif (y4.1.Low == 0 && (y4.1.High == 0 && true)) then
                (F_thalweglaw03_known ()).bind fun y7 =>
                some y7
              else
                some false
            else
              some false
          else
            some false
        else
          (F_thalwegref03_On (a0, a1)).bind fun y8 =>
          bif (!y8) then
            bif (y3 == 0) then
              bif (y4.2 == 7) then
                bif (y4.1.Low == 0 && (y4.1.High == 0 && true)) then
                  (F_thalweglaw03_known ()).bind fun y9 =>
                  some y9
                else
                  some false
              else
                some false
            else
              some false
          else
            bif (y3 == 0) then
              bif (y4.2 == 0) then
                (F_thalwegref03_Arrive (a0, a1)).bind fun y10 =>
                bif (y4.1.Low == y10.Low && (y4.1.High == y10.High && true)) then
                  (F_thalweglaw03_known ()).bind fun y11 =>
                  some y11
                else
                  some false
              else
                some false
            else
              some false

noncomputable def F_tow_validNarrow : (TNarrow) → Option (Bool) := fun x => match x with
  | (a0) =>
    (F_numbers_Within (0, 100000, ([a0.From, a0.To] : List Int))).bind fun y1 =>
    bif y1 then
      bif (decide (a0.From < a0.To)) then
        (F_numbers_Within (1, 200, ([a0.Width] : List Int))).bind fun y2 =>
        some y2
      else
        some false
    else
      some false

noncomputable def F_tow_gates : (TVoyage × TNarrow) → Option (Int × Int) := fun x => match x with
  | (a0, a1) =>
    (F_numbers_Up (a0.Length, 100)).bind fun y1 =>
    (idx? (a0.Runs) (0)).bind fun x2 =>
    (F_tow_down (x2)).bind fun y3 =>
    bif y3 then
      some (a1.From, (wr (a1.To + y1)))
    else
      some (a1.To, (wr (a1.From - y1)))

noncomputable def F_tow_near : (TVoyage × Int × Int) → Option (Bool) := fun x => match x with
  | (a0, a1, a2) =>
    (F_tow_ends (a0)).bind fun y1 =>
    bif (decide ((minmax false y1.1 y1.2) < (minmax true a1 a2))) then
      some (decide ((minmax true y1.1 y1.2) > (minmax false a1 a2)))
    else
      some false

noncomputable def F_tow_visit : (TVoyage × TNarrow) → Option (Ttow_stay × Int) := fun x => match x with
  | (a0, a1) =>
    (F_tow_Check (a0)).bind fun y1 =>
    bif (y1 != 0) then
      some ((⟨(⟨0, 0⟩ : TBounds), (⟨0, 0⟩ : TBounds), false⟩ : Ttow_stay), 2)
    else
      (F_tow_validNarrow (a1)).bind fun y2 =>
      bif (!y2) then
        some ((⟨(⟨0, 0⟩ : TBounds), (⟨0, 0⟩ : TBounds), false⟩ : Ttow_stay), 2)
      else
        (F_tow_gates (a0, a1)).bind fun y3 =>
        (F_tow_onWay (a0, ([y3.1, y3.2] : List Int))).bind fun y4 =>
        bif y4 then
          (F_tow_arrive (a0, y3.1)).bind fun y5 =>
          (F_tow_arrive (a0, y3.2)).bind fun y6 =>
          some ((⟨y5, y6, true⟩ : Ttow_stay), 0)
        else
          (F_tow_near (a0, y3.1, y3.2)).bind fun y7 =>
          bif y7 then
            some ((⟨(⟨0, 0⟩ : TBounds), (⟨0, 0⟩ : TBounds), false⟩ : Ttow_stay), 9)
          else
            some ((⟨(⟨0, 0⟩ : TBounds), (⟨0, 0⟩ : TBounds), false⟩ : Ttow_stay), 0)

noncomputable def F_tow_Through : (TVoyage × TNarrow) → Option (TBounds × TBounds × Bool × Int) := fun x => match x with
  | (a0, a1) =>
    (F_tow_visit (a0, a1)).bind fun y1 =>
    some (y1.1.in_, y1.1.out_, y1.1.passes_, y1.2)

noncomputable def F_tow_mayMeet : (Ttow_stay × Ttow_stay) → Option (Bool) := fun x => match x with
  | (a0, a1) =>
    bif a0.passes_ then
      bif a1.passes_ then
        bif (decide (a0.in_.Low ≤ a1.out_.High)) then
          some (decide (a1.in_.Low ≤ a0.out_.High))
        else
          some false
      else
        some false
    else
      some false

noncomputable def F_tow_mustMeet : (Ttow_stay × Ttow_stay) → Option (Bool) := fun x => match x with
  | (a0, a1) =>
    bif a0.passes_ then
      bif a1.passes_ then
        bif (decide (a0.in_.High ≤ a1.out_.Low)) then
          some (decide (a1.in_.High ≤ a0.out_.Low))
        else
          some false
      else
        some false
    else
      some false

noncomputable def F_tow_Meet : (TVoyage × TVoyage × TNarrow) → Option (Bool × Bool × Int) := fun x => match x with
  | (a0, a1, a2) =>
    (F_tow_Check (a0)).bind fun y1 =>
    bif (y1 != 0) then
      some (false, false, 2)
    else
      (F_tow_Check (a1)).bind fun y2 =>
      bif (y2 != 0) then
        some (false, false, 2)
      else
        (F_tow_visit (a0, a2)).bind fun y3 =>
        bif (y3.2 != 0) then
          some (false, false, y3.2)
        else
          (F_tow_visit (a1, a2)).bind fun y4 =>
          bif (y4.2 != 0) then
            some (false, false, y4.2)
          else
            (F_tow_mayMeet (y3.1, y4.1)).bind fun y5 =>
            (F_tow_mustMeet (y3.1, y4.1)).bind fun y6 =>
            some (y5, y6, 0)

noncomputable def F_thalwegref03_Narrow : (TNarrow) → Option (Bool) := fun x => match x with
  | (a0) =>
    (F_thalwegref03_in (a0.From, 0, 100000)).bind fun y1 =>
    bif y1 then
      (F_thalwegref03_in (a0.To, (wr (a0.From + 1)), 100000)).bind fun y2 =>
      bif y2 then
        (F_thalwegref03_in (a0.Width, 1, 200)).bind fun y3 =>
        some y3
      else
        some false
    else
      some false

noncomputable def F_thalwegref03_Through : (TVoyage × TNarrow) → Option (TBounds × TBounds × Bool × Int) := fun x => match x with
  | (a0, a1) =>
    (F_thalwegref03_Ends (a0)).bind fun y1 =>
    bif (decide (y1.1 < (wr (a1.To + (wr (Int.tdiv (wr (a0.Length + 99)) 100)))))) then
      bif (decide (y1.2 < y1.1)) then
        bif (decide (y1.1 > (wr (a1.From - (wr (Int.tdiv (wr (a0.Length + 99)) 100)))))) then
          bif (!(decide (y1.2 < a1.To))) then
            some ((⟨0, 0⟩ : TBounds), (⟨0, 0⟩ : TBounds), false, 0)
          else
            (F_thalwegref03_On (a0, a1.To)).bind fun y2 =>
            bif (!y2) then
              some ((⟨0, 0⟩ : TBounds), (⟨0, 0⟩ : TBounds), false, 9)
            else
              (F_thalwegref03_On (a0, (wr (a1.From - (wr (Int.tdiv (wr (a0.Length + 99)) 100)))))).bind fun y3 =>
              bif (!y3) then
                some ((⟨0, 0⟩ : TBounds), (⟨0, 0⟩ : TBounds), false, 9)
              else
                (F_thalwegref03_Arrive (a0, a1.To)).bind fun y4 =>
                (F_thalwegref03_Arrive (a0, (wr (a1.From - (wr (Int.tdiv (wr (a0.Length + 99)) 100)))))).bind fun y5 =>
                some (y4, y5, true, 0)
        else
          some ((⟨0, 0⟩ : TBounds), (⟨0, 0⟩ : TBounds), false, 0)
      else
        bif (!(decide (y1.2 > a1.From))) then
          some ((⟨0, 0⟩ : TBounds), (⟨0, 0⟩ : TBounds), false, 0)
        else
          (F_thalwegref03_On (a0, a1.From)).bind fun y6 =>
          bif (!y6) then
            some ((⟨0, 0⟩ : TBounds), (⟨0, 0⟩ : TBounds), false, 9)
          else
            (F_thalwegref03_On (a0, (wr (a1.To + (wr (Int.tdiv (wr (a0.Length + 99)) 100)))))).bind fun y7 =>
            bif (!y7) then
              some ((⟨0, 0⟩ : TBounds), (⟨0, 0⟩ : TBounds), false, 9)
            else
              (F_thalwegref03_Arrive (a0, a1.From)).bind fun y8 =>
              (F_thalwegref03_Arrive (a0, (wr (a1.To + (wr (Int.tdiv (wr (a0.Length + 99)) 100)))))).bind fun y9 =>
              some (y8, y9, true, 0)
    else
      bif (decide (y1.2 < y1.1)) then
        bif (decide (y1.1 > (wr (a1.From - (wr (Int.tdiv (wr (a0.Length + 99)) 100)))))) then
          bif (!(decide (y1.2 < a1.To))) then
            some ((⟨0, 0⟩ : TBounds), (⟨0, 0⟩ : TBounds), false, 0)
          else
            (F_thalwegref03_On (a0, a1.To)).bind fun y10 =>
            bif (!y10) then
              some ((⟨0, 0⟩ : TBounds), (⟨0, 0⟩ : TBounds), false, 9)
            else
              (F_thalwegref03_On (a0, (wr (a1.From - (wr (Int.tdiv (wr (a0.Length + 99)) 100)))))).bind fun y11 =>
              bif (!y11) then
                some ((⟨0, 0⟩ : TBounds), (⟨0, 0⟩ : TBounds), false, 9)
              else
                (F_thalwegref03_Arrive (a0, a1.To)).bind fun y12 =>
                (F_thalwegref03_Arrive (a0, (wr (a1.From - (wr (Int.tdiv (wr (a0.Length + 99)) 100)))))).bind fun y13 =>
                some (y12, y13, true, 0)
        else
          some ((⟨0, 0⟩ : TBounds), (⟨0, 0⟩ : TBounds), false, 0)
      else
        some ((⟨0, 0⟩ : TBounds), (⟨0, 0⟩ : TBounds), false, 0)

noncomputable def F_thalwegref03_Meet : (TVoyage × TVoyage × TNarrow) → Option (Bool × Bool × Int) := fun x => match x with
  | (a0, a1, a2) =>
    (F_thalwegref03_Through (a0, a2)).bind fun y1 =>
    bif (y1.2.2.2 != 0) then
      some (false, false, y1.2.2.2)
    else
      (F_thalwegref03_Through (a1, a2)).bind fun y2 =>
      bif (y2.2.2.2 != 0) then
        some (false, false, y2.2.2.2)
      else
        bif (!y1.2.2.1) then
          some (false, false, y2.2.2.2)
        else
          bif (!y2.2.2.1) then
            some (false, false, y2.2.2.2)
          else
            bif (decide (y1.1.Low ≤ y2.2.1.High)) then
              bif (decide (y1.1.High ≤ y2.2.1.Low)) then
                some ((decide (y2.1.Low ≤ y1.2.1.High)), (decide (y2.1.High ≤ y1.2.1.Low)), 0)
              else
                some ((decide (y2.1.Low ≤ y1.2.1.High)), false, 0)
            else
              bif (decide (y1.1.High ≤ y2.2.1.Low)) then
                some (false, (decide (y2.1.High ≤ y1.2.1.Low)), 0)
              else
                some (false, false, 0)

noncomputable def F_thalweglaw03_TowThrough : (TVoyage × TVoyage × TNarrow) → Option (Bool) := fun x => match x with
  | (a0, a1, a2) =>
    bif (decide (((a0.Runs).length : Int) > 25)) then
      (F_thalweglaw03_known ()).bind fun y1 =>
      some y1
    else
      bif (decide (((a1.Runs).length : Int) > 25)) then
        (F_thalweglaw03_known ()).bind fun y2 =>
        some y2
      else
        (F_thalweglaw03_copied (a0)).bind fun y3 =>
        (F_tow_Through (y3, a2)).bind fun y4 =>
        (F_thalweglaw03_copied (a0)).bind fun y5 =>
        (F_thalweglaw03_copied (a1)).bind fun y6 =>
        (F_tow_Meet (y5, y6, a2)).bind fun y7 =>
        (F_thalwegref03_Voyage (a0)).bind fun y8 =>
        bif (!y8) then
          bif (y4.2.2.2 == 2) then
            bif (y7.2.2 == y4.2.2.2) then
              bif (y4.1.Low == 0 && (y4.1.High == 0 && true)) then
                bif (y4.2.1.Low == 0 && (y4.2.1.High == 0 && true)) then
                  bif (!y4.2.2.1) then
                    bif (!y7.1) then
                      bif (!y7.2.1) then
                        (F_thalweglaw03_known ()).bind fun y9 =>
                        some y9
                      else
                        some false
                    else
                      some false
                  else
                    some false
                else
                  some false
              else
                some false
            else
              some false
          else
            some false
        else
          (F_thalwegref03_Narrow (a2)).bind fun y10 =>
          bif (!y10) then
            bif (y4.2.2.2 == 2) then
              bif (y7.2.2 == y4.2.2.2) then
                bif (y4.1.Low == 0 && (y4.1.High == 0 && true)) then
                  bif (y4.2.1.Low == 0 && (y4.2.1.High == 0 && true)) then
                    bif (!y4.2.2.1) then
                      bif (!y7.1) then
                        bif (!y7.2.1) then
                          (F_thalweglaw03_known ()).bind fun y11 =>
                          some y11
                        else
                          some false
                      else
                        some false
                    else
                      some false
                  else
                    some false
                else
                  some false
              else
                some false
            else
              some false
          else
            (F_thalwegref03_Through (a0, a2)).bind fun y12 =>
            bif (y4.2.2.2 != y12.2.2.2) then
              some false
            else
              bif (!(y4.1.Low == y12.1.Low && (y4.1.High == y12.1.High && true))) then
                some false
              else
                bif (!(y4.2.1.Low == y12.2.1.Low && (y4.2.1.High == y12.2.1.High && true))) then
                  some false
                else
                  bif (!(y4.2.2.1 == y12.2.2.1)) then
                    some false
                  else
                    (F_thalwegref03_Voyage (a1)).bind fun y13 =>
                    bif (!y13) then
                      bif (y7.2.2 == 2) then
                        bif (!y7.1) then
                          bif (!y7.2.1) then
                            (F_thalweglaw03_known ()).bind fun y14 =>
                            some y14
                          else
                            some false
                        else
                          some false
                      else
                        some false
                    else
                      (F_thalwegref03_Meet (a0, a1, a2)).bind fun y15 =>
                      bif (y7.2.2 == y15.2.2) then
                        bif (y7.1 == y15.1) then
                          bif (y7.2.1 == y15.2.1) then
                            (F_thalweglaw03_known ()).bind fun y16 =>
                            some y16
                          else
                            some false
                        else
                          some false
                      else
                        some false

noncomputable def F_thalweglaw03_sound : (TVoyage) → Option (Bool) := fun x => match x with
  | (a0) =>
    bif (decide (((a0.Runs).length : Int) ≥ 1)) then
      bif (decide (((a0.Runs).length : Int) ≤ 25)) then
        (F_thalweglaw03_copied (a0)).bind fun y1 =>
        (F_tow_Check (y1)).bind fun y2 =>
        some (y2 == 0)
      else
        some false
    else
      some false

noncomputable def F_thalweglaw03_pick : (TBounds × Int) → Option (Int) := fun x => match x with
  | (a0, a1) =>
    some (wr (a0.Low + (wr (Int.tdiv (wr ((wr (a0.High - a0.Low)) * (wr (a1)))) 255))))

noncomputable def F_thalweglaw03_part : ((List Int) × Int) → Option (Int) := fun x => match x with
  | (a0, a1) =>
    bif (((a0).length : Int) == 0) then
      some 0
    else
      (nz? (((a0).length : Int))).bind fun _ =>
      (idx? (a0) ((Int.tmod a1 ((a0).length : Int)))).bind fun x1 =>
      some x1

noncomputable def L_thalweglaw03_truly_1 (a2 : Int) (a0 : TVoyage) (a1 : Tthalweglaw03_Truth) : LoopD (Int × Int) (Unit ⊕ Int) (Unit) where
  step := fun s => match s with
    | (s2, s3) =>
      bif (decide (s3 < ((a0.Runs).length : Int))) then
        (idx? (a0.Runs) (s3)).bind fun x9 =>
        bif (a2 == x9.From) then
          some (.inr (.inr s2))
        else
          (F_thalweglaw03_part (a1.Speeds, s3)).bind fun y10 =>
          (F_thalweglaw03_pick (x9.Speed, y10)).bind fun y11 =>
          bif (decide (y11 < 1)) then
            some (.inr (.inr (-1)))
          else
            (F_thalweglaw03_part (a1.Wait, s3)).bind fun y12 =>
            (F_thalweglaw03_pick (x9.Wait, y12)).bind fun y13 =>
            bif ((decide ((wr (a2 - x9.From)) > 0)) == (decide (x9.To > x9.From))) then
              bif (decide ((minmax true (wr (a2 - x9.From)) (wr (0 - (wr (a2 - x9.From))))) ≤ (minmax true (wr (x9.To - x9.From)) (wr (x9.From - x9.To))))) then
                (nz? (y11)).bind fun _ =>
                some (.inr (.inr (wr ((wr (s2 + y13)) + (wr (Int.tdiv (wr ((wr ((wr (60 * (minmax true (wr (a2 - x9.From)) (wr (0 - (wr (a2 - x9.From))))))) + y11)) - 1)) y11))))))
              else
                (nz? (y11)).bind fun _ =>
                some (.inl ((wr ((wr (s2 + y13)) + (wr (Int.tdiv (wr ((wr ((wr (60 * (minmax true (wr (x9.To - x9.From)) (wr (x9.From - x9.To))))) + y11)) - 1)) y11)))), (wr (s3 + 1))))
            else
              (nz? (y11)).bind fun _ =>
              some (.inl ((wr ((wr (s2 + y13)) + (wr (Int.tdiv (wr ((wr ((wr (60 * (minmax true (wr (x9.To - x9.From)) (wr (x9.From - x9.To))))) + y11)) - 1)) y11)))), (wr (s3 + 1))))
      else
        some (.inr (.inl ()))
  at_ := fun s gh => match s, gh with
    | (s2, s3), () => ⟨[(2, (V.v (.int .i64 (a2)))), (3, (V.box 0 0)), (4, (V.box 1 0)), (6, (V.v (.int .i64 (0)))), (7, (V.v (.int .i64 (s2)))), (8, (V.v (.int .i64 (s3))))], [(0, Bx.var [(V.v (.int .i64 (a0.Start.Low))), (V.v (.int .i64 (a0.Start.High))), (V.sl (recs eTRun (a0.Runs)) (a0.Runs).length), (V.v (.int .i64 (a0.Length))), (V.v (.int .i64 (a0.Width)))] false), (1, Bx.var [(V.v (.int .u8 (a1.Start))), (V.sl (recs (eI .u8) (a1.Speeds)) (a1.Speeds).length), (V.sl (recs (eI .u8) (a1.Wait)) (a1.Wait).length)] false)], 2⟩
noncomputable def F_thalweglaw03_truly : (TVoyage × Tthalweglaw03_Truth × Int) → Option (Int) := fun x => match x with
  | (a0, a1, a2) =>
    (F_thalweglaw03_pick (a0.Start, a1.Start)).bind fun y1 =>
    (loopC (L_thalweglaw03_truly_1 a2 a0 a1).step (y1, 0)).bind fun e => match e with
    | (.inl ()) =>
      some (-1)
    | (.inr r14) =>
      some r14

noncomputable def L_thalweglaw03_TowTruths_1 (y7 : Bool × Bool × Int) (a0 : Tanon67) (a1 : TNarrow) (a2 : Tanon71) : LoopD (Bool × Int × Int × Int × Int × Int) ((Bool × Int × Int × Int × Int) ⊕ Bool) (Unit) where
  step := fun s => match s with
    | (s9, s10, s11, s12, s13, s14) =>
      bif (decide (s10 < 2)) then
        bif (s10 == 0) then
          (F_thalweglaw03_copied (a0.a0)).bind fun y59 =>
          (F_tow_Through (y59, a1)).bind fun y60 =>
          bif (y60.2.2.2 != 0) then
            some (.inr (.inr false))
          else
            bif s9 then
              bif (!y60.2.2.1) then
                bif (!(y60.1.Low == 0 && (y60.1.High == 0 && true))) then
                  some (.inr (.inr false))
                else
                  bif (!(y60.2.1.Low == y60.1.Low && (y60.2.1.High == y60.1.High && true))) then
                    some (.inr (.inr false))
                  else
                    some (.inl (y60.2.2.1, (wr (s10 + 1)), s11, s12, s13, s14))
              else
                (idx? (a0.a0.Runs) (0)).bind fun x61 =>
                (idx? (a0.a0.Runs) (0)).bind fun x62 =>
                bif (decide (x61.To < x62.From)) then
                  (F_thalweglaw03_truly (a0.a0, a2.a0, a1.To)).bind fun y63 =>
                  (F_thalweglaw03_truly (a0.a0, a2.a0, (wr (a1.From - (wr (Int.tdiv (wr (a0.a0.Length + 99)) 100)))))).bind fun y64 =>
                  bif (decide (y63 < y60.1.Low)) then
                    some (.inr (.inr false))
                  else
                    bif (decide (y63 > y60.1.High)) then
                      some (.inr (.inr false))
                    else
                      bif (decide (y64 < y60.2.1.Low)) then
                        some (.inr (.inr false))
                      else
                        bif (decide (y64 > y60.2.1.High)) then
                          some (.inr (.inr false))
                        else
                          bif (decide (y63 > y64)) then
                            some (.inr (.inr false))
                          else
                            (F_thalweglaw03_copied (a0.a0)).bind fun y65 =>
                            (F_tow_Arrive (y65, (wr (a1.From - (wr (Int.tdiv (wr (a0.a0.Length + 99)) 100)))))).bind fun y66 =>
                            bif (y66.2 != 0) then
                              some (.inr (.inr false))
                            else
                              bif (!(y66.1.Low == y60.2.1.Low && (y66.1.High == y60.2.1.High && true))) then
                                some (.inr (.inr false))
                              else
                                some (.inl (y60.2.2.1, (wr (s10 + 1)), y63, y64, s13, s14))
                else
                  (F_thalweglaw03_truly (a0.a0, a2.a0, a1.From)).bind fun y67 =>
                  (F_thalweglaw03_truly (a0.a0, a2.a0, (wr (a1.To + (wr (Int.tdiv (wr (a0.a0.Length + 99)) 100)))))).bind fun y68 =>
                  bif (decide (y67 < y60.1.Low)) then
                    some (.inr (.inr false))
                  else
                    bif (decide (y67 > y60.1.High)) then
                      some (.inr (.inr false))
                    else
                      bif (decide (y68 < y60.2.1.Low)) then
                        some (.inr (.inr false))
                      else
                        bif (decide (y68 > y60.2.1.High)) then
                          some (.inr (.inr false))
                        else
                          bif (decide (y67 > y68)) then
                            some (.inr (.inr false))
                          else
                            (F_thalweglaw03_copied (a0.a0)).bind fun y69 =>
                            (F_tow_Arrive (y69, (wr (a1.To + (wr (Int.tdiv (wr (a0.a0.Length + 99)) 100)))))).bind fun y70 =>
                            bif (y70.2 != 0) then
                              some (.inr (.inr false))
                            else
                              bif (!(y70.1.Low == y60.2.1.Low && (y70.1.High == y60.2.1.High && true))) then
                                some (.inr (.inr false))
                              else
                                some (.inl (y60.2.2.1, (wr (s10 + 1)), y67, y68, s13, s14))
            else
              bif (!y60.2.2.1) then
                bif (!(y60.1.Low == 0 && (y60.1.High == 0 && true))) then
                  some (.inr (.inr false))
                else
                  bif (!(y60.2.1.Low == y60.1.Low && (y60.2.1.High == y60.1.High && true))) then
                    some (.inr (.inr false))
                  else
                    some (.inl (false, (wr (s10 + 1)), s11, s12, s13, s14))
              else
                (idx? (a0.a0.Runs) (0)).bind fun x71 =>
                (idx? (a0.a0.Runs) (0)).bind fun x72 =>
                bif (decide (x71.To < x72.From)) then
                  (F_thalweglaw03_truly (a0.a0, a2.a0, a1.To)).bind fun y73 =>
                  (F_thalweglaw03_truly (a0.a0, a2.a0, (wr (a1.From - (wr (Int.tdiv (wr (a0.a0.Length + 99)) 100)))))).bind fun y74 =>
                  bif (decide (y73 < y60.1.Low)) then
                    some (.inr (.inr false))
                  else
                    bif (decide (y73 > y60.1.High)) then
                      some (.inr (.inr false))
                    else
                      bif (decide (y74 < y60.2.1.Low)) then
                        some (.inr (.inr false))
                      else
                        bif (decide (y74 > y60.2.1.High)) then
                          some (.inr (.inr false))
                        else
                          bif (decide (y73 > y74)) then
                            some (.inr (.inr false))
                          else
                            (F_thalweglaw03_copied (a0.a0)).bind fun y75 =>
                            (F_tow_Arrive (y75, (wr (a1.From - (wr (Int.tdiv (wr (a0.a0.Length + 99)) 100)))))).bind fun y76 =>
                            bif (y76.2 != 0) then
                              some (.inr (.inr false))
                            else
                              bif (!(y76.1.Low == y60.2.1.Low && (y76.1.High == y60.2.1.High && true))) then
                                some (.inr (.inr false))
                              else
                                some (.inl (false, (wr (s10 + 1)), y73, y74, s13, s14))
                else
                  (F_thalweglaw03_truly (a0.a0, a2.a0, a1.From)).bind fun y77 =>
                  (F_thalweglaw03_truly (a0.a0, a2.a0, (wr (a1.To + (wr (Int.tdiv (wr (a0.a0.Length + 99)) 100)))))).bind fun y78 =>
                  bif (decide (y77 < y60.1.Low)) then
                    some (.inr (.inr false))
                  else
                    bif (decide (y77 > y60.1.High)) then
                      some (.inr (.inr false))
                    else
                      bif (decide (y78 < y60.2.1.Low)) then
                        some (.inr (.inr false))
                      else
                        bif (decide (y78 > y60.2.1.High)) then
                          some (.inr (.inr false))
                        else
                          bif (decide (y77 > y78)) then
                            some (.inr (.inr false))
                          else
                            (F_thalweglaw03_copied (a0.a0)).bind fun y79 =>
                            (F_tow_Arrive (y79, (wr (a1.To + (wr (Int.tdiv (wr (a0.a0.Length + 99)) 100)))))).bind fun y80 =>
                            bif (y80.2 != 0) then
                              some (.inr (.inr false))
                            else
                              bif (!(y80.1.Low == y60.2.1.Low && (y80.1.High == y60.2.1.High && true))) then
                                some (.inr (.inr false))
                              else
                                some (.inl (false, (wr (s10 + 1)), y77, y78, s13, s14))
        else
          bif (s10 == 1) then
            (F_thalweglaw03_copied (a0.a1)).bind fun y81 =>
            (F_tow_Through (y81, a1)).bind fun y82 =>
            bif (y82.2.2.2 != 0) then
              some (.inr (.inr false))
            else
              bif s9 then
                bif (!y82.2.2.1) then
                  bif (!(y82.1.Low == 0 && (y82.1.High == 0 && true))) then
                    some (.inr (.inr false))
                  else
                    bif (!(y82.2.1.Low == y82.1.Low && (y82.2.1.High == y82.1.High && true))) then
                      some (.inr (.inr false))
                    else
                      some (.inl (y82.2.2.1, (wr (s10 + 1)), s11, s12, s13, s14))
                else
                  (idx? (a0.a1.Runs) (0)).bind fun x83 =>
                  (idx? (a0.a1.Runs) (0)).bind fun x84 =>
                  bif (decide (x83.To < x84.From)) then
                    (F_thalweglaw03_truly (a0.a1, a2.a1, a1.To)).bind fun y85 =>
                    (F_thalweglaw03_truly (a0.a1, a2.a1, (wr (a1.From - (wr (Int.tdiv (wr (a0.a1.Length + 99)) 100)))))).bind fun y86 =>
                    bif (decide (y85 < y82.1.Low)) then
                      some (.inr (.inr false))
                    else
                      bif (decide (y85 > y82.1.High)) then
                        some (.inr (.inr false))
                      else
                        bif (decide (y86 < y82.2.1.Low)) then
                          some (.inr (.inr false))
                        else
                          bif (decide (y86 > y82.2.1.High)) then
                            some (.inr (.inr false))
                          else
                            bif (decide (y85 > y86)) then
                              some (.inr (.inr false))
                            else
                              (F_thalweglaw03_copied (a0.a1)).bind fun y87 =>
                              (F_tow_Arrive (y87, (wr (a1.From - (wr (Int.tdiv (wr (a0.a1.Length + 99)) 100)))))).bind fun y88 =>
                              bif (y88.2 != 0) then
                                some (.inr (.inr false))
                              else
                                bif (!(y88.1.Low == y82.2.1.Low && (y88.1.High == y82.2.1.High && true))) then
                                  some (.inr (.inr false))
                                else
                                  some (.inl (y82.2.2.1, (wr (s10 + 1)), s11, s12, y85, y86))
                  else
                    (F_thalweglaw03_truly (a0.a1, a2.a1, a1.From)).bind fun y89 =>
                    (F_thalweglaw03_truly (a0.a1, a2.a1, (wr (a1.To + (wr (Int.tdiv (wr (a0.a1.Length + 99)) 100)))))).bind fun y90 =>
                    bif (decide (y89 < y82.1.Low)) then
                      some (.inr (.inr false))
                    else
                      bif (decide (y89 > y82.1.High)) then
                        some (.inr (.inr false))
                      else
                        bif (decide (y90 < y82.2.1.Low)) then
                          some (.inr (.inr false))
                        else
                          bif (decide (y90 > y82.2.1.High)) then
                            some (.inr (.inr false))
                          else
                            bif (decide (y89 > y90)) then
                              some (.inr (.inr false))
                            else
                              (F_thalweglaw03_copied (a0.a1)).bind fun y91 =>
                              (F_tow_Arrive (y91, (wr (a1.To + (wr (Int.tdiv (wr (a0.a1.Length + 99)) 100)))))).bind fun y92 =>
                              bif (y92.2 != 0) then
                                some (.inr (.inr false))
                              else
                                bif (!(y92.1.Low == y82.2.1.Low && (y92.1.High == y82.2.1.High && true))) then
                                  some (.inr (.inr false))
                                else
                                  some (.inl (y82.2.2.1, (wr (s10 + 1)), s11, s12, y89, y90))
              else
                bif (!y82.2.2.1) then
                  bif (!(y82.1.Low == 0 && (y82.1.High == 0 && true))) then
                    some (.inr (.inr false))
                  else
                    bif (!(y82.2.1.Low == y82.1.Low && (y82.2.1.High == y82.1.High && true))) then
                      some (.inr (.inr false))
                    else
                      some (.inl (false, (wr (s10 + 1)), s11, s12, s13, s14))
                else
                  (idx? (a0.a1.Runs) (0)).bind fun x93 =>
                  (idx? (a0.a1.Runs) (0)).bind fun x94 =>
                  bif (decide (x93.To < x94.From)) then
                    (F_thalweglaw03_truly (a0.a1, a2.a1, a1.To)).bind fun y95 =>
                    (F_thalweglaw03_truly (a0.a1, a2.a1, (wr (a1.From - (wr (Int.tdiv (wr (a0.a1.Length + 99)) 100)))))).bind fun y96 =>
                    bif (decide (y95 < y82.1.Low)) then
                      some (.inr (.inr false))
                    else
                      bif (decide (y95 > y82.1.High)) then
                        some (.inr (.inr false))
                      else
                        bif (decide (y96 < y82.2.1.Low)) then
                          some (.inr (.inr false))
                        else
                          bif (decide (y96 > y82.2.1.High)) then
                            some (.inr (.inr false))
                          else
                            bif (decide (y95 > y96)) then
                              some (.inr (.inr false))
                            else
                              (F_thalweglaw03_copied (a0.a1)).bind fun y97 =>
                              (F_tow_Arrive (y97, (wr (a1.From - (wr (Int.tdiv (wr (a0.a1.Length + 99)) 100)))))).bind fun y98 =>
                              bif (y98.2 != 0) then
                                some (.inr (.inr false))
                              else
                                bif (!(y98.1.Low == y82.2.1.Low && (y98.1.High == y82.2.1.High && true))) then
                                  some (.inr (.inr false))
                                else
                                  some (.inl (false, (wr (s10 + 1)), s11, s12, y95, y96))
                  else
                    (F_thalweglaw03_truly (a0.a1, a2.a1, a1.From)).bind fun y99 =>
                    (F_thalweglaw03_truly (a0.a1, a2.a1, (wr (a1.To + (wr (Int.tdiv (wr (a0.a1.Length + 99)) 100)))))).bind fun y100 =>
                    bif (decide (y99 < y82.1.Low)) then
                      some (.inr (.inr false))
                    else
                      bif (decide (y99 > y82.1.High)) then
                        some (.inr (.inr false))
                      else
                        bif (decide (y100 < y82.2.1.Low)) then
                          some (.inr (.inr false))
                        else
                          bif (decide (y100 > y82.2.1.High)) then
                            some (.inr (.inr false))
                          else
                            bif (decide (y99 > y100)) then
                              some (.inr (.inr false))
                            else
                              (F_thalweglaw03_copied (a0.a1)).bind fun y101 =>
                              (F_tow_Arrive (y101, (wr (a1.To + (wr (Int.tdiv (wr (a0.a1.Length + 99)) 100)))))).bind fun y102 =>
                              bif (y102.2 != 0) then
                                some (.inr (.inr false))
                              else
                                bif (!(y102.1.Low == y82.2.1.Low && (y102.1.High == y82.2.1.High && true))) then
                                  some (.inr (.inr false))
                                else
                                  some (.inl (false, (wr (s10 + 1)), s11, s12, y99, y100))
          else
            none
      else
        some (.inr (.inl (s9, s11, s13, s12, s14)))
  at_ := fun s gh => match s, gh with
    | (s9, s10, s11, s12, s13, s14), () => ⟨[(3, (V.box 0 0)), (4, (V.box 1 0)), (5, (V.box 2 0)), (6, (V.v (.bool (false)))), (7, (V.v (.bool (y7.1)))), (8, (V.v (.bool (y7.2.1)))), (10, (V.box 33 0)), (11, (V.box 34 0)), (12, (V.v (.bool (s9)))), (13, (V.v (.int .i64 (s10))))], [(0, Bx.var [(V.v (.int .i64 (a0.a0.Start.Low))), (V.v (.int .i64 (a0.a0.Start.High))), (V.sl (recs eTRun (a0.a0.Runs)) (a0.a0.Runs).length), (V.v (.int .i64 (a0.a0.Length))), (V.v (.int .i64 (a0.a0.Width))), (V.v (.int .i64 (a0.a1.Start.Low))), (V.v (.int .i64 (a0.a1.Start.High))), (V.sl (recs eTRun (a0.a1.Runs)) (a0.a1.Runs).length), (V.v (.int .i64 (a0.a1.Length))), (V.v (.int .i64 (a0.a1.Width)))] false), (1, Bx.var [(V.v (.int .i64 (a1.From))), (V.v (.int .i64 (a1.To))), (V.v (.int .i64 (a1.Width))), (V.v (.bool (a1.Single)))] false), (2, Bx.var [(V.v (.int .u8 (a2.a0.Start))), (V.sl (recs (eI .u8) (a2.a0.Speeds)) (a2.a0.Speeds).length), (V.sl (recs (eI .u8) (a2.a0.Wait)) (a2.a0.Wait).length), (V.v (.int .u8 (a2.a1.Start))), (V.sl (recs (eI .u8) (a2.a1.Speeds)) (a2.a1.Speeds).length), (V.sl (recs (eI .u8) (a2.a1.Wait)) (a2.a1.Wait).length)] false), (33, Bx.var [(V.v (.int .i64 (s11))), (V.v (.int .i64 (s13)))] false), (34, Bx.var [(V.v (.int .i64 (s12))), (V.v (.int .i64 (s14)))] false)], 35⟩
noncomputable def F_thalweglaw03_TowTruths : (Tanon67 × TNarrow × Tanon71) → Option (Bool) := fun x => match x with
  | (a0, a1, a2) =>
    (F_thalweglaw03_sound (a0.a0)).bind fun y1 =>
    bif (!y1) then
      (F_thalweglaw03_known ()).bind fun y2 =>
      some y2
    else
      (F_thalweglaw03_sound (a0.a1)).bind fun y3 =>
      bif (!y3) then
        (F_thalweglaw03_known ()).bind fun y4 =>
        some y4
      else
        (F_thalweglaw03_copied (a0.a0)).bind fun y5 =>
        (F_thalweglaw03_copied (a0.a1)).bind fun y6 =>
        (F_tow_Meet (y5, y6, a1)).bind fun y7 =>
        bif (y7.2.2 != 0) then
          bif (!y7.1) then
            bif (!y7.2.1) then
              (F_thalweglaw03_known ()).bind fun y8 =>
              some y8
            else
              some false
          else
            some false
        else
          (loopC (L_thalweglaw03_TowTruths_1 y7 a0 a1 a2).step (true, 0, 0, 0, 0, 0)).bind fun e => match e with
          | (.inl (s103, s104, s105, s106, s107)) =>
            bif (!s103) then
              bif (!y7.1) then
                bif (!y7.2.1) then
                  (F_thalweglaw03_known ()).bind fun y108 =>
                  some y108
                else
                  some false
              else
                some false
            else
              bif (decide (s104 ≤ s107)) then
                bif y7.1 then
                  bif (decide (s105 ≤ s106)) then
                    (F_thalweglaw03_known ()).bind fun y109 =>
                    some y109
                  else
                    bif (!y7.2.1) then
                      (F_thalweglaw03_known ()).bind fun y110 =>
                      some y110
                    else
                      some false
                else
                  bif (!(decide (s105 ≤ s106))) then
                    bif (decide (s105 ≤ s106)) then
                      bif (!y7.2.1) then
                        (F_thalweglaw03_known ()).bind fun y111 =>
                        some y111
                      else
                        some false
                    else
                      bif (!y7.2.1) then
                        (F_thalweglaw03_known ()).bind fun y112 =>
                        some y112
                      else
                        some false
                  else
                    some false
              else
                bif y7.1 then
                  bif (!y7.2.1) then
                    (F_thalweglaw03_known ()).bind fun y113 =>
                    some y113
                  else
                    some false
                else
                  bif (!y7.2.1) then
                    (F_thalweglaw03_known ()).bind fun y114 =>
                    some y114
                  else
                    some false
          | (.inr r115) =>
            some r115

noncomputable def F_thalweglaw03_TowBrakes : (Tthalweglaw03_Brakes) → Option (Bool) := fun x => match x with
  | (a0) =>
    (F_tow_Stop ((wr (5 * (wr (a0.Mass)))), (wr (1 + (Int.tmod (wr (a0.Power)) 19999))), (⟨(wr (1 + (wr ((minmax false a0.Grip.a0 a0.Grip.a1))))), (wr (1 + (wr ((minmax true a0.Grip.a0 a0.Grip.a1)))))⟩ : TBounds), (wr (a0.Speed.a0)))).bind fun y1 =>
    (F_tow_Stop ((wr (5 * (wr (a0.Mass)))), (wr (1 + (Int.tmod (wr (a0.Power)) 19999))), (⟨(wr (1 + (wr ((minmax false a0.Grip.a0 a0.Grip.a1))))), (wr (1 + (wr ((minmax true a0.Grip.a0 a0.Grip.a1)))))⟩ : TBounds), (wr ((wr (a0.Speed.a0)) + (Int.tmod (wr (a0.Speed.a1)) 140))))).bind fun y2 =>
    (F_tow_Stop ((wr ((wr (5 * (wr (a0.Mass)))) + (wr (a0.Sight)))), (wr (1 + (Int.tmod (wr (a0.Power)) 19999))), (⟨(wr (1 + (wr ((minmax false a0.Grip.a0 a0.Grip.a1))))), (wr (1 + (wr ((minmax true a0.Grip.a0 a0.Grip.a1)))))⟩ : TBounds), (wr (a0.Speed.a0)))).bind fun y3 =>
    (F_tow_Stop ((wr (5 * (wr (a0.Mass)))), (wr ((wr (1 + (Int.tmod (wr (a0.Power)) 19999))) + 1)), (⟨(wr (1 + (wr ((minmax false a0.Grip.a0 a0.Grip.a1))))), (wr ((wr (1 + (wr ((minmax true a0.Grip.a0 a0.Grip.a1))))) + 3))⟩ : TBounds), (wr (a0.Speed.a0)))).bind fun y4 =>
    bif (y1.2 != 0) then
      some false
    else
      bif (y2.2 != 0) then
        some false
      else
        bif (y3.2 != 0) then
          some false
        else
          bif (y4.2 != 0) then
            some false
          else
            bif (decide (y1.1.Low < 0)) then
              some false
            else
              bif (decide (y1.1.Low > y1.1.High)) then
                some false
              else
                bif (decide (y2.1.Low < y1.1.Low)) then
                  some false
                else
                  bif (decide (y2.1.High < y1.1.High)) then
                    some false
                  else
                    bif (decide (y3.1.Low < y1.1.Low)) then
                      some false
                    else
                      bif (decide (y3.1.High < y1.1.High)) then
                        some false
                      else
                        bif (decide (y4.1.Low > y1.1.Low)) then
                          some false
                        else
                          bif (decide (y4.1.High > y1.1.High)) then
                            some false
                          else
                            bif (decide ((wr (3 * y1.1.High)) < (wr (5 * (wr (a0.Speed.a0)))))) then
                              some false
                            else
                              (F_tow_Safe ((wr (5 * (wr (a0.Mass)))), (wr (1 + (Int.tmod (wr (a0.Power)) 19999))), (⟨(wr (1 + (wr ((minmax false a0.Grip.a0 a0.Grip.a1))))), (wr (1 + (wr ((minmax true a0.Grip.a0 a0.Grip.a1)))))⟩ : TBounds), (wr (a0.Sight)))).bind fun y5 =>
                              bif (y5.2 != 0) then
                                some false
                              else
                                bif (decide (y5.1 < 0)) then
                                  some false
                                else
                                  bif (decide (y5.1 > 400)) then
                                    some false
                                  else
                                    (F_tow_Stop ((wr (5 * (wr (a0.Mass)))), (wr (1 + (Int.tmod (wr (a0.Power)) 19999))), (⟨(wr (1 + (wr ((minmax false a0.Grip.a0 a0.Grip.a1))))), (wr (1 + (wr ((minmax true a0.Grip.a0 a0.Grip.a1)))))⟩ : TBounds), y5.1)).bind fun y6 =>
                                    bif (y6.2 != 0) then
                                      some false
                                    else
                                      bif (decide (y6.1.High > (wr (a0.Sight)))) then
                                        some false
                                      else
                                        bif (decide (y5.1 < 400)) then
                                          (F_tow_Stop ((wr (5 * (wr (a0.Mass)))), (wr (1 + (Int.tmod (wr (a0.Power)) 19999))), (⟨(wr (1 + (wr ((minmax false a0.Grip.a0 a0.Grip.a1))))), (wr (1 + (wr ((minmax true a0.Grip.a0 a0.Grip.a1)))))⟩ : TBounds), (wr (y5.1 + 1)))).bind fun y7 =>
                                          bif (y7.2 != 0) then
                                            some false
                                          else
                                            bif (decide (y7.1.High ≤ (wr (a0.Sight)))) then
                                              some false
                                            else
                                              (F_thalweglaw03_known ()).bind fun y8 =>
                                              some y8
                                        else
                                          (F_thalweglaw03_known ()).bind fun y9 =>
                                          some y9
end Go.Ev
/- What the arguments of the law are. -/
set_option linter.unusedVariables false
set_option linter.unusedSimpArgs false
namespace Go.Ev
open Go.Proofs
set_option maxRecDepth 100000
theorem typ_list {α : Type} {enc : α → List V} {k : α → Prop} {n : Nat} {e : TypeId} (h : ∀ vs, Typ Try.prog n e vs → ∃ a, vs = enc a ∧ k a) : ∀ (ls : List (List V)), (∀ l ∈ ls, Typ Try.prog n e l) → ∃ l : List α, ls.flatten = recs enc l ∧ ls.length = l.length ∧ ∀ x ∈ l, k x
  | [], _ => ⟨[], rfl, rfl, fun x hx => by cases hx⟩
  | x :: ls, hl => by
    obtain ⟨a, rfl, ha⟩ := h x (hl x (by simp))
    obtain ⟨l, h1, h2, h3⟩ := typ_list h ls fun y hy => hl y (by simp [hy])
    refine ⟨a :: l, by simp [recs, List.flatten_cons, h1], by simp [h2], ?_⟩
    intro x hx
    cases hx with
    | head => exact ha
    | tail _ hx => exact h3 x hx
def kIi64 (i : Int) : Prop := IntKind.i64.min ≤ i ∧ i ≤ IntKind.i64.max
theorem typ_Ii64_3 {n : Nat} {vs : List V} (h : Typ Try.prog (n + 1) 3 vs) : ∃ x : Int, vs = [(V.v (.int .i64 (x)))] ∧ kIi64 (x) := by
  simp only [Typ, Try.underlying3] at h
  obtain ⟨i, rfl, hw⟩ := h
  refine ⟨i, rfl, ?_⟩
  simp only [Lit.wf, Bool.and_eq_true, decide_eq_true_eq] at hw
  exact hw
def kTTowHull (x : TTowHull) : Prop := kIi64 (x.Length) ∧ kIi64 (x.Width) ∧ kIi64 (x.Mass)
theorem typ_TTowHull_23 {n : Nat} {vs : List V} (h : Typ Try.prog (n + 2) 23 vs) : ∃ x : TTowHull, vs = eTTowHull x ∧ kTTowHull x := by
  unfold Typ at h
  simp only [Try.underlying23] at h
  obtain ⟨ls, rfl, h⟩ := h
  obtain ⟨v0, v1, v2, rfl, h0, h1, h2⟩ := all2_3 h
  obtain ⟨x0, rfl, k0⟩ := typ_Ii64_3 (n := n + 0) h0
  obtain ⟨x1, rfl, k1⟩ := typ_Ii64_3 (n := n + 0) h1
  obtain ⟨x2, rfl, k2⟩ := typ_Ii64_3 (n := n + 0) h2
  exact ⟨⟨x0, x1, x2⟩, rfl, k0, k1, k2⟩
def kLTTowHull (l : List TTowHull) : Prop := l.length ≤ 140737488355328 ∧ ∀ x ∈ l, kTTowHull (x)
theorem typ_LTTowHull_27 {n : Nat} {vs : List V} (h : Typ Try.prog (n + 3) 27 vs) : ∃ x : List TTowHull, vs = [(V.sl (recs eTTowHull (x)) (x).length)] ∧ kLTTowHull (x) := by
  unfold Typ at h
  simp only [Try.underlying27] at h
  obtain ⟨ls, rfl, h1, h2⟩ := h
  obtain ⟨l, h3, h4, h5⟩ := typ_list (enc := eTTowHull) (fun vs hv => typ_TTowHull_23 (n := n) hv) ls h1
  refine ⟨l, by rw [h3, h4], ?_, h5⟩
  have hb : Try.prog.bytesOf 23 = 24 := by kernel_rfl
  rw [hb, h4] at h2
  have : reachBytes = 140737488351232 := rfl
  omega
def kLLTTowHull (l : List (List TTowHull)) : Prop := l.length ≤ 140737488355328 ∧ ∀ x ∈ l, kLTTowHull (x)
theorem typ_LLTTowHull_24 {n : Nat} {vs : List V} (h : Typ Try.prog (n + 4) 24 vs) : ∃ x : List (List TTowHull), vs = [(V.sl (recs (eS eTTowHull) (x)) (x).length)] ∧ kLLTTowHull (x) := by
  unfold Typ at h
  simp only [Try.underlying24] at h
  obtain ⟨ls, rfl, h1, h2⟩ := h
  obtain ⟨l, h3, h4, h5⟩ := typ_list (enc := (eS eTTowHull)) (fun vs hv => typ_LTTowHull_27 (n := n) hv) ls h1
  refine ⟨l, by rw [h3, h4], ?_, h5⟩
  have hb : Try.prog.bytesOf 27 = 24 := by kernel_rfl
  rw [hb, h4] at h2
  have : reachBytes = 140737488351232 := rfl
  omega
def kTTow (x : TTow) : Prop := kTTowHull (x.Boat) ∧ kIi64 (x.Power) ∧ kLLTTowHull (x.Rows)
theorem typ_TTow_26 {n : Nat} {vs : List V} (h : Typ Try.prog (n + 5) 26 vs) : ∃ x : TTow, vs = eTTow x ∧ kTTow x := by
  unfold Typ at h
  simp only [Try.underlying26] at h
  obtain ⟨ls, rfl, h⟩ := h
  obtain ⟨v0, v1, v2, rfl, h0, h1, h2⟩ := all2_3 h
  obtain ⟨x0, rfl, k0⟩ := typ_TTowHull_23 (n := n + 2) h0
  obtain ⟨x1, rfl, k1⟩ := typ_Ii64_3 (n := n + 3) h1
  obtain ⟨x2, rfl, k2⟩ := typ_LLTTowHull_24 (n := n + 0) h2
  exact ⟨⟨x0, x1, x2⟩, rfl, k0, k1, k2⟩
def kTanon37 (x : Tanon37) : Prop := kIi64 (x.a0) ∧ kIi64 (x.a1)
theorem typ_Tanon37_37 {n : Nat} {vs : List V} (h : Typ Try.prog (n + 2) 37 vs) : ∃ x : Tanon37, vs = eTanon37 x ∧ kTanon37 x := by
  unfold Typ at h
  simp only [Try.underlying37] at h
  obtain ⟨ls, rfl, hl, h⟩ := h
  match ls, hl with
  | [v0, v1], _ =>
    obtain ⟨x0, rfl, k0⟩ := typ_Ii64_3 (n := n + 0) (h v0 (by simp))
    obtain ⟨x1, rfl, k1⟩ := typ_Ii64_3 (n := n + 0) (h v1 (by simp))
    exact ⟨⟨x0, x1⟩, rfl, k0, k1⟩
def kTBounds (x : TBounds) : Prop := kIi64 (x.Low) ∧ kIi64 (x.High)
theorem typ_TBounds_39 {n : Nat} {vs : List V} (h : Typ Try.prog (n + 2) 39 vs) : ∃ x : TBounds, vs = eTBounds x ∧ kTBounds x := by
  unfold Typ at h
  simp only [Try.underlying39] at h
  obtain ⟨ls, rfl, h⟩ := h
  obtain ⟨v0, v1, rfl, h0, h1⟩ := all2_2 h
  obtain ⟨x0, rfl, k0⟩ := typ_Ii64_3 (n := n + 0) h0
  obtain ⟨x1, rfl, k1⟩ := typ_Ii64_3 (n := n + 0) h1
  exact ⟨⟨x0, x1⟩, rfl, k0, k1⟩
def kTRun (x : TRun) : Prop := kIi64 (x.From) ∧ kIi64 (x.To) ∧ kTBounds (x.Speed) ∧ kTBounds (x.Wait)
theorem typ_TRun_73 {n : Nat} {vs : List V} (h : Typ Try.prog (n + 3) 73 vs) : ∃ x : TRun, vs = eTRun x ∧ kTRun x := by
  unfold Typ at h
  simp only [Try.underlying73] at h
  obtain ⟨ls, rfl, h⟩ := h
  obtain ⟨v0, v1, v2, v3, rfl, h0, h1, h2, h3⟩ := all2_4 h
  obtain ⟨x0, rfl, k0⟩ := typ_Ii64_3 (n := n + 1) h0
  obtain ⟨x1, rfl, k1⟩ := typ_Ii64_3 (n := n + 1) h1
  obtain ⟨x2, rfl, k2⟩ := typ_TBounds_39 (n := n + 0) h2
  obtain ⟨x3, rfl, k3⟩ := typ_TBounds_39 (n := n + 0) h3
  exact ⟨⟨x0, x1, x2, x3⟩, rfl, k0, k1, k2, k3⟩
def kLTRun (l : List TRun) : Prop := l.length ≤ 140737488355328 ∧ ∀ x ∈ l, kTRun (x)
theorem typ_LTRun_48 {n : Nat} {vs : List V} (h : Typ Try.prog (n + 4) 48 vs) : ∃ x : List TRun, vs = [(V.sl (recs eTRun (x)) (x).length)] ∧ kLTRun (x) := by
  unfold Typ at h
  simp only [Try.underlying48] at h
  obtain ⟨ls, rfl, h1, h2⟩ := h
  obtain ⟨l, h3, h4, h5⟩ := typ_list (enc := eTRun) (fun vs hv => typ_TRun_73 (n := n) hv) ls h1
  refine ⟨l, by rw [h3, h4], ?_, h5⟩
  have hb : Try.prog.bytesOf 73 = 48 := by kernel_rfl
  rw [hb, h4] at h2
  have : reachBytes = 140737488351232 := rfl
  omega
def kTVoyage (x : TVoyage) : Prop := kTBounds (x.Start) ∧ kLTRun (x.Runs) ∧ kIi64 (x.Length) ∧ kIi64 (x.Width)
theorem typ_TVoyage_50 {n : Nat} {vs : List V} (h : Typ Try.prog (n + 5) 50 vs) : ∃ x : TVoyage, vs = eTVoyage x ∧ kTVoyage x := by
  unfold Typ at h
  simp only [Try.underlying50] at h
  obtain ⟨ls, rfl, h⟩ := h
  obtain ⟨v0, v1, v2, v3, rfl, h0, h1, h2, h3⟩ := all2_4 h
  obtain ⟨x0, rfl, k0⟩ := typ_TBounds_39 (n := n + 2) h0
  obtain ⟨x1, rfl, k1⟩ := typ_LTRun_48 (n := n + 0) h1
  obtain ⟨x2, rfl, k2⟩ := typ_Ii64_3 (n := n + 3) h2
  obtain ⟨x3, rfl, k3⟩ := typ_Ii64_3 (n := n + 3) h3
  exact ⟨⟨x0, x1, x2, x3⟩, rfl, k0, k1, k2, k3⟩
theorem typ_B_4 {n : Nat} {vs : List V} (h : Typ Try.prog (n + 1) 4 vs) : ∃ x : Bool, vs = [(V.v (.bool (x)))] ∧ True := by
  simp only [Typ, Try.underlying4] at h
  obtain ⟨i, rfl⟩ := h
  exact ⟨i, rfl, trivial⟩
def kTNarrow (x : TNarrow) : Prop := kIi64 (x.From) ∧ kIi64 (x.To) ∧ kIi64 (x.Width) ∧ True
theorem typ_TNarrow_60 {n : Nat} {vs : List V} (h : Typ Try.prog (n + 2) 60 vs) : ∃ x : TNarrow, vs = eTNarrow x ∧ kTNarrow x := by
  unfold Typ at h
  simp only [Try.underlying60] at h
  obtain ⟨ls, rfl, h⟩ := h
  obtain ⟨v0, v1, v2, v3, rfl, h0, h1, h2, h3⟩ := all2_4 h
  obtain ⟨x0, rfl, k0⟩ := typ_Ii64_3 (n := n + 0) h0
  obtain ⟨x1, rfl, k1⟩ := typ_Ii64_3 (n := n + 0) h1
  obtain ⟨x2, rfl, k2⟩ := typ_Ii64_3 (n := n + 0) h2
  obtain ⟨x3, rfl, k3⟩ := typ_B_4 (n := n + 0) h3
  exact ⟨⟨x0, x1, x2, x3⟩, rfl, k0, k1, k2, k3⟩
def kTanon67 (x : Tanon67) : Prop := kTVoyage (x.a0) ∧ kTVoyage (x.a1)
theorem typ_Tanon67_67 {n : Nat} {vs : List V} (h : Typ Try.prog (n + 6) 67 vs) : ∃ x : Tanon67, vs = eTanon67 x ∧ kTanon67 x := by
  unfold Typ at h
  simp only [Try.underlying67] at h
  obtain ⟨ls, rfl, hl, h⟩ := h
  match ls, hl with
  | [v0, v1], _ =>
    obtain ⟨x0, rfl, k0⟩ := typ_TVoyage_50 (n := n + 0) (h v0 (by simp))
    obtain ⟨x1, rfl, k1⟩ := typ_TVoyage_50 (n := n + 0) (h v1 (by simp))
    exact ⟨⟨x0, x1⟩, rfl, k0, k1⟩
def kIu8 (i : Int) : Prop := IntKind.u8.min ≤ i ∧ i ≤ IntKind.u8.max
theorem typ_Iu8_5 {n : Nat} {vs : List V} (h : Typ Try.prog (n + 1) 5 vs) : ∃ x : Int, vs = [(V.v (.int .u8 (x)))] ∧ kIu8 (x) := by
  simp only [Typ, Try.underlying5] at h
  obtain ⟨i, rfl, hw⟩ := h
  refine ⟨i, rfl, ?_⟩
  simp only [Lit.wf, Bool.and_eq_true, decide_eq_true_eq] at hw
  exact hw
def kLIu8 (l : List Int) : Prop := l.length ≤ 140737488355328 ∧ ∀ x ∈ l, kIu8 (x)
theorem typ_LIu8_68 {n : Nat} {vs : List V} (h : Typ Try.prog (n + 2) 68 vs) : ∃ x : List Int, vs = [(V.sl (recs (eI .u8) (x)) (x).length)] ∧ kLIu8 (x) := by
  unfold Typ at h
  simp only [Try.underlying68] at h
  obtain ⟨ls, rfl, h1, h2⟩ := h
  obtain ⟨l, h3, h4, h5⟩ := typ_list (enc := (eI .u8)) (fun vs hv => typ_Iu8_5 (n := n) hv) ls h1
  refine ⟨l, by rw [h3, h4], ?_, h5⟩
  have hb : Try.prog.bytesOf 5 = 1 := by kernel_rfl
  rw [hb, h4] at h2
  have : reachBytes = 140737488351232 := rfl
  omega
def kTthalweglaw03_Truth (x : Tthalweglaw03_Truth) : Prop := kIu8 (x.Start) ∧ kLIu8 (x.Speeds) ∧ kLIu8 (x.Wait)
theorem typ_Tthalweglaw03_Truth_70 {n : Nat} {vs : List V} (h : Typ Try.prog (n + 3) 70 vs) : ∃ x : Tthalweglaw03_Truth, vs = eTthalweglaw03_Truth x ∧ kTthalweglaw03_Truth x := by
  unfold Typ at h
  simp only [Try.underlying70] at h
  obtain ⟨ls, rfl, h⟩ := h
  obtain ⟨v0, v1, v2, rfl, h0, h1, h2⟩ := all2_3 h
  obtain ⟨x0, rfl, k0⟩ := typ_Iu8_5 (n := n + 1) h0
  obtain ⟨x1, rfl, k1⟩ := typ_LIu8_68 (n := n + 0) h1
  obtain ⟨x2, rfl, k2⟩ := typ_LIu8_68 (n := n + 0) h2
  exact ⟨⟨x0, x1, x2⟩, rfl, k0, k1, k2⟩
def kTanon71 (x : Tanon71) : Prop := kTthalweglaw03_Truth (x.a0) ∧ kTthalweglaw03_Truth (x.a1)
theorem typ_Tanon71_71 {n : Nat} {vs : List V} (h : Typ Try.prog (n + 4) 71 vs) : ∃ x : Tanon71, vs = eTanon71 x ∧ kTanon71 x := by
  unfold Typ at h
  simp only [Try.underlying71] at h
  obtain ⟨ls, rfl, hl, h⟩ := h
  match ls, hl with
  | [v0, v1], _ =>
    obtain ⟨x0, rfl, k0⟩ := typ_Tthalweglaw03_Truth_70 (n := n + 0) (h v0 (by simp))
    obtain ⟨x1, rfl, k1⟩ := typ_Tthalweglaw03_Truth_70 (n := n + 0) (h v1 (by simp))
    exact ⟨⟨x0, x1⟩, rfl, k0, k1⟩
def kIu16 (i : Int) : Prop := IntKind.u16.min ≤ i ∧ i ≤ IntKind.u16.max
theorem typ_Iu16_76 {n : Nat} {vs : List V} (h : Typ Try.prog (n + 1) 76 vs) : ∃ x : Int, vs = [(V.v (.int .u16 (x)))] ∧ kIu16 (x) := by
  simp only [Typ, Try.underlying76] at h
  obtain ⟨i, rfl, hw⟩ := h
  refine ⟨i, rfl, ?_⟩
  simp only [Lit.wf, Bool.and_eq_true, decide_eq_true_eq] at hw
  exact hw
def kTanon77 (x : Tanon77) : Prop := kIu8 (x.a0) ∧ kIu8 (x.a1)
theorem typ_Tanon77_77 {n : Nat} {vs : List V} (h : Typ Try.prog (n + 2) 77 vs) : ∃ x : Tanon77, vs = eTanon77 x ∧ kTanon77 x := by
  unfold Typ at h
  simp only [Try.underlying77] at h
  obtain ⟨ls, rfl, hl, h⟩ := h
  match ls, hl with
  | [v0, v1], _ =>
    obtain ⟨x0, rfl, k0⟩ := typ_Iu8_5 (n := n + 0) (h v0 (by simp))
    obtain ⟨x1, rfl, k1⟩ := typ_Iu8_5 (n := n + 0) (h v1 (by simp))
    exact ⟨⟨x0, x1⟩, rfl, k0, k1⟩
def kTthalweglaw03_Brakes (x : Tthalweglaw03_Brakes) : Prop := kIu16 (x.Mass) ∧ kIu16 (x.Power) ∧ kTanon77 (x.Grip) ∧ kTanon77 (x.Speed) ∧ kIu16 (x.Sight)
theorem typ_Tthalweglaw03_Brakes_79 {n : Nat} {vs : List V} (h : Typ Try.prog (n + 3) 79 vs) : ∃ x : Tthalweglaw03_Brakes, vs = eTthalweglaw03_Brakes x ∧ kTthalweglaw03_Brakes x := by
  unfold Typ at h
  simp only [Try.underlying79] at h
  obtain ⟨ls, rfl, h⟩ := h
  obtain ⟨v0, v1, v2, v3, v4, rfl, h0, h1, h2, h3, h4⟩ := all2_5 h
  obtain ⟨x0, rfl, k0⟩ := typ_Iu16_76 (n := n + 1) h0
  obtain ⟨x1, rfl, k1⟩ := typ_Iu16_76 (n := n + 1) h1
  obtain ⟨x2, rfl, k2⟩ := typ_Tanon77_77 (n := n + 0) h2
  obtain ⟨x3, rfl, k3⟩ := typ_Tanon77_77 (n := n + 0) h3
  obtain ⟨x4, rfl, k4⟩ := typ_Iu16_76 (n := n + 1) h4
  exact ⟨⟨x0, x1, x2, x3, x4⟩, rfl, k0, k1, k2, k3, k4⟩
end Go.Ev
/- Tests that are decided by other tests. -/
namespace Go.Ev
theorem eqT_ne {α : Type} [BEq α] {a b : α} (h : (a == b) = true) : (a != b) = false := by rw [bne, h]; rfl
theorem eqF_ne {α : Type} [BEq α] {a b : α} (h : (a == b) = false) : (a != b) = true := by rw [bne, h]; rfl
theorem neT_eq {α : Type} [BEq α] {a b : α} (h : (a != b) = true) : (a == b) = false := by
  unfold bne at h; cases e : (a == b) with
  | true => rw [e] at h; cases h
  | false => rfl
theorem neF_eq {α : Type} [BEq α] {a b : α} (h : (a != b) = false) : (a == b) = true := by
  unfold bne at h; cases e : (a == b) with
  | true => rfl
  | false => rw [e] at h; cases h
end Go.Ev
/- Elements of arrays, by an index that is not written: by cases. -/
namespace Go.Ev
theorem ib_ok {j : Int} {c n : Nat} (e : j = (c : Int)) (hc : decide (c < n) = true) : 0 ≤ j ∧ j < (n : Int) := by
  have := of_decide_eq_true hc
  omega
theorem ib_nat {j : Int} {c : Nat} (e : j = (c : Int)) : j.toNat = c := by omega
variable {P : Program} {st : ST} {rs ws : List Nat}
theorem o_ib {K : V → ST → Prop} {j : Int} {c n b off size : Nat} {d : Decidable (0 ≤ j ∧ j < (n : Int))} (e : j = (c : Int)) (hc : decide (c < n) = true)
    (h : (RM.ret (.box b (off + c * size))).go st K) : (@RM.dec (0 ≤ j ∧ j < (n : Int)) (.ret (.box b (off + j.toNat * size))) d).go st K :=
  go_req (ib_ok e hc) (by rw [ib_nat e]; exact h)
theorem o_ibT {K : V → ST → List Nat → List Nat → Prop} {j : Int} {c n b off size : Nat} {d : Decidable (0 ≤ j ∧ j < (n : Int))} (e : j = (c : Int)) (hc : decide (c < n) = true)
    (h : (RM.ret (.box b (off + c * size))).goT st rs ws K) : (@RM.dec (0 ≤ j ∧ j < (n : Int)) (.ret (.box b (off + j.toNat * size))) d).goT st rs ws K :=
  goT_req (ib_ok e hc) (by rw [ib_nat e]; exact h)
theorem o_ix {K : V → ST → Prop} {j : Int} {c n size : Nat} {t : TypeId} {cs : List V} {f : V → RM} {d : Decidable (0 ≤ j ∧ j < (n : Int))} (e : j = (c : Int)) (hc : decide (c < n) = true)
    (h : (takeR P t cs (c * size) f).go st K) : (@RM.dec (0 ≤ j ∧ j < (n : Int)) (takeR P t cs (j.toNat * size) f) d).go st K :=
  go_req (ib_ok e hc) (by rw [ib_nat e]; exact h)
theorem o_ixT {K : V → ST → List Nat → List Nat → Prop} {j : Int} {c n size : Nat} {t : TypeId} {cs : List V} {f : V → RM} {d : Decidable (0 ≤ j ∧ j < (n : Int))} (e : j = (c : Int)) (hc : decide (c < n) = true)
    (h : (takeR P t cs (c * size) f).goT st rs ws K) : (@RM.dec (0 ≤ j ∧ j < (n : Int)) (takeR P t cs (j.toNat * size) f) d).goT st rs ws K :=
  goT_req (ib_ok e hc) (by rw [ib_nat e]; exact h)
/-! stores at two offsets -/
theorem o_stBT {α : Type} {enc : α → List V} {s o n : Nat} {l r : List α} {j : Int} {a x : α} {new : List V} {b : Nat} {e : TypeId} {d : Decidable (new.length = n ∧ j.toNat * s + o + n ≤ (recs enc l).length ∧ 0 ≤ j.toNat * s + o)} {K : V → ST → List Nat → List Nat → Prop} (hi : idx? l j = some a) (h : set? l j x = some r) (he : ∀ a, (enc a).length = s) (ho : o + n ≤ s)
    (hn : new.length = n) (hb : (enc a).take o ++ new ++ (enc a).drop (o + n) = enc x)
    (hk : (RM.ret .top).goT ((b, .row e s (recs enc r) 0) :: st) rs (b :: ws) K) : (@RM.dec (new.length = n ∧ j.toNat * s + o + n ≤ (recs enc l).length ∧ 0 ≤ j.toNat * s + o) (.put b (.row e s ((recs enc l).take (j.toNat * s + o) ++ new ++ (recs enc l).drop (j.toNat * s + o + n)) 0) (.ret .top)) d).goT st rs ws K := by
  obtain ⟨h1, h2⟩ := set_eq (o := o) hi h he ho hn hb
  rw [h2]; exact ⟨h1, hk⟩
theorem o_stC {α : Type} {enc : α → List V} {s o o2 n : Nat} {l r : List α} {j : Int} {a x : α} {new : List V} {b : Nat} {e : TypeId} {d : Decidable (new.length = n ∧ j.toNat * s + o + o2 + n ≤ (recs enc l).length ∧ 0 ≤ j.toNat * s + o + o2)} {K : V → ST → Prop} (hi : idx? l j = some a) (h : set? l j x = some r) (he : ∀ a, (enc a).length = s) (ho : (o + o2) + n ≤ s)
    (hn : new.length = n) (hb : (enc a).take (o + o2) ++ new ++ (enc a).drop ((o + o2) + n) = enc x)
    (hk : (RM.ret .top).go ((b, .row e s (recs enc r) 0) :: st) K) : (@RM.dec (new.length = n ∧ j.toNat * s + o + o2 + n ≤ (recs enc l).length ∧ 0 ≤ j.toNat * s + o + o2) (.put b (.row e s ((recs enc l).take (j.toNat * s + o + o2) ++ new ++ (recs enc l).drop (j.toNat * s + o + o2 + n)) 0) (.ret .top)) d).go st K := by
  obtain ⟨h1, h2⟩ := set_eq (o := (o + o2)) hi h he ho hn hb
  simp only [← Nat.add_assoc] at h1 h2
  rw [h2]; exact ⟨h1, hk⟩
theorem o_stCT {α : Type} {enc : α → List V} {s o o2 n : Nat} {l r : List α} {j : Int} {a x : α} {new : List V} {b : Nat} {e : TypeId} {d : Decidable (new.length = n ∧ j.toNat * s + o + o2 + n ≤ (recs enc l).length ∧ 0 ≤ j.toNat * s + o + o2)} {K : V → ST → List Nat → List Nat → Prop} (hi : idx? l j = some a) (h : set? l j x = some r) (he : ∀ a, (enc a).length = s) (ho : (o + o2) + n ≤ s)
    (hn : new.length = n) (hb : (enc a).take (o + o2) ++ new ++ (enc a).drop ((o + o2) + n) = enc x)
    (hk : (RM.ret .top).goT ((b, .row e s (recs enc r) 0) :: st) rs (b :: ws) K) : (@RM.dec (new.length = n ∧ j.toNat * s + o + o2 + n ≤ (recs enc l).length ∧ 0 ≤ j.toNat * s + o + o2) (.put b (.row e s ((recs enc l).take (j.toNat * s + o + o2) ++ new ++ (recs enc l).drop (j.toNat * s + o + o2 + n)) 0) (.ret .top)) d).goT st rs ws K := by
  obtain ⟨h1, h2⟩ := set_eq (o := (o + o2)) hi h he ho hn hb
  simp only [← Nat.add_assoc] at h1 h2
  rw [h2]; exact ⟨h1, hk⟩
/-- An element of a list that has been written to: it is as long as it was. -/
theorem oidx_len {α : Type} {l l0 : List α} {j : Int} {a : α} {s : Nat} (h : idx? l j = some a) (hl : l.length = l0.length) (hs : 0 < s) : 0 ≤ j ∧ j < (l0.length : Int) ∧ 0 < s := by
  have := oidx_ok h hs
  rw [hl] at this
  exact this
end Go.Ev
/- The functions do what is said. -/
set_option linter.unusedVariables false
set_option linter.unusedSimpArgs false
namespace Go.Ev
open Go.Proofs
set_option maxHeartbeats 8000000
set_option maxRecDepth 100000
theorem mix : Try.prog.follows .mixedOrders = true := by kernel_rfl
end Go.Ev
