/- A part of the proof of TowEnds. -/
import Derived.Carry
import Derived.Lib.AppendZeros
import Derived.OpenShut
import Derived.ProofKit
import Derived.RangeFuncLeaves
import Derived.RangeFuncNested
import Derived.SizedLaws
import Derived.Sort.LoopGhostIn
import Derived.Test.YtoffbeemeecjjaaProg
import Derived.Test.YtoffbeemeecjjaaW1
/- A run of the model follows the evaluator: code, functions. -/
set_option linter.unusedVariables false
set_option linter.unusedSimpArgs false
namespace Go.Ev
open Go.RowKit

section
variable {P : Program} {C : FuncId → Option Con}

theorem wide_wide : Wide Fence.wide := ⟨fun _ => trivial, rfl, rfl⟩

theorem awp_sound (hC : CtxOK P C) {FF : Fence} (hW : Wide FF) (hmix : P.follows .mixedOrders = true) {O : Nat → Prop} {w0 : World} {F0 : FZ} {M0 : MP} {D : List Deferred} {sz pins : Nat} (hp : ∀ b y, M0 b = some y → b < pins) : ∀ (c : Code) (Q : AX → TM → ST → Nat → Prop) (QQ : Exit → Act → World → Prop) (F : FZ) (m : MP) (tm : TM) (st : ST) (nx : Nat) (a : Act) (w : World),
    Rel O w0 F0 M0 D (fun b => nx ≤ b) F m sz tm st a w → awp P C sz pins c Q tm st nx → (∀ e a w, Post O w0 F0 M0 D sz Q e a w → QQ e a w) → c.wpIn FF 0 P QQ a w
  | .skip, Q, QQ, F, m, tm, st, nx, a, w, h, hg, hq => wpIn_skip (hq .normal a w ⟨F, m, tm, st, nx, h, hg⟩)
  | .region id ops false, Q, QQ, F, m, tm, st, nx, a, w, h, hg, hq => by
    refine wpIn_region ?_
    have := evOps_sound hC hW (ops := ops) (Q := QQ) ops.toList 0 nx F m tm st a w rfl h hg (by
      intro F' m' tm' st' a' w' hR hK
      exact hq .normal a' w' ⟨F', m', tm', st', _, by simpa using hR, hK⟩)
    simpa using this
  | .seq x y, Q, QQ, F, m, tm, st, nx, a, w, h, hg, hq => by
    refine wpIn_seq ?_
    refine awp_sound hC hW hmix hp x _ _ F m tm st nx a w h hg ?_
    intro e a' w' hpo
    cases e with
    | normal =>
      obtain ⟨F', m', tm', st', nx', hR, hK⟩ := hpo
      exact awp_sound hC hW hmix hp y Q QQ F' m' tm' st' nx' a' w' hR hK hq
    | exit id => exact hq (.exit id) a' w' hpo
    | ret => exact hq .ret a' w' hpo
    | goto l => exact hpo.elim
    | panic c => exact hpo.elim
    | outgrown => exact hpo.elim
  | .cond c x y, Q, QQ, F, m, tm, st, nx, a, w, h, hg, hq => by
    simp only [awp] at hg
    split at hg
    · next b hb =>
      have he := h.ev c
      rw [hb] at he
      have he' : a.eval c = .bool b := he
      obtain ⟨g1, g2⟩ := br_elim hg
      refine wpIn_cond he' ?_
      cases b with
      | true => exact awp_sound hC hW hmix hp x Q QQ F m tm st nx a w h (g1 rfl) hq
      | false => exact awp_sound hC hW hmix hp y Q QQ F m tm st nx a w h (g2 rfl) hq
    · cases hg
  | .block id c, Q, QQ, F, m, tm, st, nx, a, w, h, hg, hq => by
    refine wpIn_block ?_
    refine awp_sound hC hW hmix hp c _ _ F m tm st nx a w h hg ?_
    intro e a' w' hpo
    cases e with
    | normal => exact hq .normal a' w' hpo
    | exit j =>
      obtain ⟨F', m', tm', st', nx', hR, hK⟩ := hpo
      simp only [Exit.inBlock]
      by_cases hj : j = id
      · rw [if_pos hj]
        simp only [hj, decide_true] at hK
        exact hq .normal a' w' ⟨F', m', tm', st', nx', hR, hK⟩
      · rw [if_neg hj]
        simp only [hj, decide_false] at hK
        exact hq (.exit j) a' w' ⟨F', m', tm', st', nx', hR, hK⟩
    | ret => exact hq .ret a' w' hpo
    | goto l => exact hpo.elim
    | panic c => exact hpo.elim
    | outgrown => exact hpo.elim
  | .loop c, Q, QQ, F, m, tm, st, nx, a, w, h, hg, hq => by
    obtain ⟨α, mk, μ, ⟨x0, r0, h0⟩, hround⟩ := hg
    refine wpIn_loop_ghost (fun n a w => ∃ x F m, μ x = n ∧ Rel O w0 F0 M0 D (fun b => (mk x).nx ≤ b) F m sz (mk x).tm (mk x).st a w) (μ x0) ⟨x0, F, _, rfl, h.sub hp h0⟩ ?_
    rintro n a w ⟨x, F, m, rfl, hR⟩
    refine awp_sound hC hW hmix hp c _ _ F m _ _ _ a w hR (hround x) ?_
    intro e a' w' hpo
    cases e with
    | normal =>
      obtain ⟨F', m', tm', st', nx', hR', y, r, hs, hlt⟩ := hpo
      exact ⟨μ y, hlt, y, F', _, rfl, hR'.sub hp hs⟩
    | exit id => exact hq (.exit id) a' w' hpo
    | ret => exact hq .ret a' w' hpo
    | goto l => exact hpo.elim
    | panic c => exact hpo.elim
    | outgrown => exact hpo.elim
  | .exit id, Q, QQ, F, m, tm, st, nx, a, w, h, hg, hq => wpIn_exit (hq (.exit id) a w ⟨F, m, tm, st, nx, h, hg⟩)
  | .ret, Q, QQ, F, m, tm, st, nx, a, w, h, hg, hq => wpIn_ret (hq .ret a w ⟨F, m, tm, st, nx, h, hg⟩)
  | .region id ops true, Q, QQ, F, m, tm, st, nx, a, w, h, hg, hq => by
    simp only [awp] at hg
    split at hg
    · next hah =>
      exact evOpsD_sound hC hW hmix hah h hg fun F' m' tm' st' a' w' hR hK => hq .normal a' w' ⟨F', m', tm', st', _, hR, hK⟩
    · cases hg
  | .rangeFunc _ _ _ _, Q, QQ, F, m, tm, st, nx, a, w, h, hg, hq => by simp [awp] at hg
  | .scope _, Q, QQ, F, m, tm, st, nx, a, w, h, hg, hq => by simp [awp] at hg
  | .label _, Q, QQ, F, m, tm, st, nx, a, w, h, hg, hq => by simp [awp] at hg
  | .goto _, Q, QQ, F, m, tm, st, nx, a, w, h, hg, hq => by simp [awp] at hg
  | .refuse _, Q, QQ, F, m, tm, st, nx, a, w, h, hg, hq => by simp [awp] at hg

theorem RM.go_bind (f : V → RM) (K : V → ST → Prop) : ∀ (r : RM) (st : ST), (r.bind f).go st K ↔ r.go st (fun v st' => (f v).go st' K)
  | .fail, st => Iff.rfl
  | .ret v, st => Iff.rfl
  | .req p k, st => by simp only [RM.bind, RM.go, go_bind f K k]
  | @RM.dec p k _, st => by simp only [RM.bind, RM.go, go_bind f K k]
  | .exi _ p k, st => by simp only [RM.bind, RM.go, fun x => go_bind f K (k x)]
  | .get b k, st => by
    simp only [RM.bind, RM.go]
    split
    · exact go_bind f K _ _
    · exact Iff.rfl
  | .put b x k, st => by simp only [RM.bind, RM.go, go_bind f K k]

/-- What a function's results read as. -/
def resOne (tmps : Array Value) : ResultVar → Sem Value
  | .tmp t => pure (tmps.getD t undef)
  | .cell a t => do loadVar t (← asAddr (tmps.getD a undef))

def packV : List Value → Value
  | [v] => v
  | vs => .tuple vs.toArray

theorem results_eq (fn : Func) (tmps : Array Value) (w : World) (vs : List Value) (h : (fn.results.toList.mapM (resOne tmps)).run P w = .ok vs w) :
    (results fn tmps).run P w = .ok (packV vs) w := by
  have e : fn.results.mapM (resOne tmps) = List.toArray <$> fn.results.toList.mapM (resOne tmps) := by
    conv => lhs; rw [show fn.results = fn.results.toList.toArray by simp]
    rw [List.mapM_toArray]
  show Sem.run P (do let vs ← fn.results.mapM (resOne tmps); pure (if h : vs.size = 1 then vs[0] else .tuple vs)) w = _
  rw [e]
  simp only [Sem.run_bind, Sem.run_map, h, Result.andThen_ok, Sem.run_pure]
  congr 1
  match vs with
  | [] => rfl
  | [v] => rfl
  | v :: v' :: vs => simp [packV]

theorem resR_sound {O : Nat → Prop} {w0 : World} {F0 : FZ} {M0 : MP} {D : List Deferred} {U : Nat → Prop} {m : MP} {sz : Nat} {tm : TM} {a : Act} {w : World} {K : V → ST → Prop} : ∀ (l : List ResultVar) (acc : List V) (vs : List Value) (F : FZ) (st : ST),
    Rel O w0 F0 M0 D U F m sz tm st a w → (resR P tm l acc).go st K → acc.length = vs.length → (∀ (i : Nat) (c : V) (x : Value), acc[i]? = some c → vs[i]? = some x → RV m F w.heap c x) →
    ∃ F' st' vs' c, Rel O w0 F0 M0 D U F' m sz tm st' a w ∧ (l.mapM (resOne a.tmps)).run P w = .ok vs' w ∧ RC F' w.heap c (packV (vs ++ vs')) ∧ K c st'
  | [], acc, vs, F, st, h, hg, hl, hv => by
    simp only [resR] at hg
    match acc, vs, hl with
    | [c], [x], _ =>
      obtain ⟨F1, st1, c1, r1, e1, r2, r3, _⟩ := fz_sound 4 c x _ st F K h (hv 0 c x rfl rfl) hg
      exact ⟨F1, st1, [], c1, r1, by simp, r2, r3⟩
    | [], [], _ =>
      obtain ⟨F1, st1, cs1, r1, e1, r2, r3, _⟩ := mapRM_sound (fz_sound 4) [] [] _ st F K h rfl (by simp) hg
      exact ⟨F1, st1, [], .tup cs1, r1, by simp, ⟨_, rfl, r2⟩, r3⟩
    | c :: d :: acc, x :: y :: vs, hl =>
      obtain ⟨F1, st1, cs1, r1, e1, r2, r3, _⟩ := mapRM_sound (fz_sound 4) (c :: d :: acc) (x :: y :: vs) _ st F K h hl hv hg
      exact ⟨F1, st1, [], .tup cs1, r1, by simp, ⟨(x :: y :: vs).toArray, by simp [packV], by simpa using r2⟩, r3⟩
  | .tmp t :: l, acc, vs, F, st, h, hg, hl, hv => by
    simp only [resR] at hg
    obtain ⟨F1, st1, vs1, c, r1, r2, r3, r4⟩ := resR_sound l (acc ++ [(look tm t).getD .top]) (vs ++ [a.tmps.getD t undef]) F st h hg (by simp [hl]) (by
      intro i c x hc hx
      by_cases hi : i < acc.length
      · rw [List.getElem?_append_left hi] at hc
        rw [List.getElem?_append_left (by omega)] at hx
        exact hv i c x hc hx
      · rw [List.getElem?_append_right (by omega)] at hc
        rw [List.getElem?_append_right (by omega), ← hl] at hx
        cases hi0 : i - acc.length with
        | zero => rw [hi0] at hc hx; simp at hc hx; subst hc hx; have := h.htm t; rwa [Array.getD_eq_getD_getElem?] at this
        | succ n => rw [hi0] at hc; simp at hc)
    refine ⟨F1, st1, a.tmps.getD t undef :: vs1, c, r1, ?_, by simpa using r3, r4⟩
    simp [List.mapM_cons, resOne, r2]
  | .cell p t :: l, acc, vs, F, st, h, hg, hl, hv => by
    simp only [resR] at hg
    rw [RM.go_bind] at hg
    obtain ⟨F0', st0, c0, v0, h0, e0, hrun, hv0, hg⟩ := load_sound (P := P) (C := fun _ => none) h hg
    obtain ⟨F1, st1, vs1, c, r1, r2, r3, r4⟩ := resR_sound l (acc ++ [c0]) (vs ++ [v0]) F0' st0 h0 hg (by simp [hl]) (by
      intro i c x hc hx
      by_cases hi : i < acc.length
      · rw [List.getElem?_append_left hi] at hc
        rw [List.getElem?_append_left (by omega)] at hx
        exact (hv i c x hc hx).mono (fun _ _ e => e) e0 (Keeps.refl _ _)
      · rw [List.getElem?_append_right (by omega)] at hc
        rw [List.getElem?_append_right (by omega), ← hl] at hx
        cases hi0 : i - acc.length with
        | zero => rw [hi0] at hc hx; simp at hc hx; subst hc hx; exact hv0
        | succ n => rw [hi0] at hc; simp at hc)
    refine ⟨F1, st1, v0 :: vs1, c, r1, ?_, by simpa using r3, r4⟩
    have hld : (resOne a.tmps (.cell p t)).run P w = .ok v0 w := by
      have e : a.eval (.tmp p) = a.tmps.getD p undef := rfl
      rw [e] at hrun
      simp only [resOne]
      cases hp : a.tmps.getD p undef with
      | pointer q =>
        rw [hp] at hrun
        cases q with
        | some q => simpa [asAddr, Instr.loadAt, Instr.sureAddr] using hrun
        | none => simp [Instr.loadAt, Instr.sureAddr, Result.andThen] at hrun
      | _ => rw [hp] at hrun; simp [Instr.loadAt, Instr.sureAddr, Result.andThen] at hrun
    simp [List.mapM_cons, hld, r2]

/-- The state at a function's begin. -/
def startT (avs : List V) : TM := (List.range avs.length).zip avs

theorem look_start : ∀ (avs : List V) (k i : Nat), look (((List.range' k avs.length)).zip avs) i = if k ≤ i then avs[i - k]? else none
  | [], k, i => by simp
  | c :: avs, k, i => by
    simp only [List.length_cons, List.range'_succ, List.zip_cons_cons, look_cons, look_start avs (k + 1) i]
    by_cases h : k = i
    · subst h; simp
    · rw [if_neg h]
      by_cases h2 : k + 1 ≤ i
      · rw [if_pos h2, if_pos (by omega)]
        have : i - k = i - (k + 1) + 1 := by omega
        rw [this, List.getElem?_cons_succ]
      · rw [if_neg h2, if_neg (by omega)]

/-- The boxes at a function's begin. -/
def startS (ps : List Bx) : ST := (List.range ps.length).zip ps

theorem look_starts : ∀ (ps : List Bx) (k i : Nat), look (((List.range' k ps.length)).zip ps) i = if k ≤ i then ps[i - k]? else none
  | [], k, i => by simp
  | c :: ps, k, i => by
    simp only [List.length_cons, List.range'_succ, List.zip_cons_cons, look_cons, look_starts ps (k + 1) i]
    by_cases h : k = i
    · subst h; simp
    · rw [if_neg h]
      by_cases h2 : k + 1 ≤ i
      · rw [if_pos h2, if_pos (by omega)]
        have : i - k = i - (k + 1) + 1 := by omega
        rw [this, List.getElem?_cons_succ]
      · rw [if_neg h2, if_neg (by omega)]

theorem look_startS (ps : List Bx) (i : Nat) : look (startS ps) i = ps[i]? := by
  unfold startS
  rw [List.range_eq_range', look_starts ps 0 i]
  simp

/-- The boxes at a function's end. -/
def postB : Nat → List Bx → ST → Prop
  | _, [], _ => True
  | i, p :: ps, st => look st i = some p ∧ postB (i + 1) ps st

theorem postB_get : ∀ {ps : List Bx} {k : Nat} {st : ST}, postB k ps st → ∀ (i : Nat) (p : Bx), ps[i]? = some p → look st (k + i) = some p
  | [], _, _, _, i, p, h => by simp at h
  | q :: ps, k, st, ⟨h1, h2⟩, i, p, h => by
    cases i with
    | zero => simp at h; subst h; exact h1
    | succ i =>
      have := postB_get h2 i p (by simpa using h)
      rwa [show k + 1 + i = k + (i + 1) by omega] at this

/-- A FUNCTION: what the evaluator says of its body holds of its calls. -/
theorem soundV_of_awp (hC : CtxOK P C) (hmix : P.follows .mixedOrders = true) {f : FuncId} {fn : Func} {c : Code} (hf : P.funcs[f]? = some fn) (hb : fn.body = some c) {con : Con}
    (h : ∀ x, con.ok x → (con.enc x).length ≤ fn.ntmps ∧ awp P C fn.ntmps 0 c (fun e tm st nx => match e with
      | .exit _ => False
      | _ => (resR P tm fn.results.toList []).go st fun r _ => r = con.res x) (startT (con.enc x)) [] 0) : SoundV P f con := by
  intro x F w vs hF hv hok
  obtain ⟨hlen, hawp⟩ := h x hok
  generalize havs : con.enc x = avs at hlen hawp hv
  have hl := RCs_length hv
  refine callsIn_wide.1 (callsIn_of_wp (n := 0) hf hb trivial ?_)
  have hR : Rel (fun g => w.heap.size ≤ g) w F (fun _ => none) [] (fun b => 0 ≤ b) F (fun _ => none) fn.ntmps (startT avs) [] { tmps := vs.toArray ++ Array.replicate (fn.ntmps - vs.toArray.size) undef, defers := [] } w := by
    refine { htm := fun i => ?_, hsz := by simp; omega, hde := rfl, hst := fun b x hx => by simp at hx, inj := fun b b' g c c' _ _ hm => (by cases hm), fresh := fun b _ => ⟨rfl, rfl⟩, pin := fun b y e => (by cases e), keep := Keeps.refl _ _, f0 := fun _ _ e => e, f1 := fun _ _ e => .inl e, f2 := hF, mlt := fun b g c hm => (by cases hm), below := Own.refl _ _, hb := fun _ e => e }
    have e : look (startT avs) i = avs[i]? := by
      unfold startT
      rw [List.range_eq_range', look_start avs 0 i]
      simp
    rw [e]
    cases hi : avs[i]? with
    | none => exact trivial
    | some c =>
      have hil : i < avs.length := (List.getElem?_eq_some_iff.1 hi).1
      have hx : vs[i]? = some (vs[i]'(by omega)) := List.getElem?_eq_getElem (by omega)
      have := ((RCs_iff.1 hv).2 i c _ hi hx).1
      simp only [Option.getD_some]
      have e2 : (vs.toArray ++ Array.replicate (fn.ntmps - vs.toArray.size) undef).getD i undef = vs[i]'(by omega) := by
        rw [Array.getD_eq_getD_getElem?, Array.getElem?_append_left (by simp; omega)]
        simp [hx]
      rw [e2]
      exact RV.of_RC this
  refine awp_sound (pins := 0) hC wide_wide hmix (fun b y e => by cases e) c _ _ F _ _ _ 0 _ w hR hawp ?_
  have fin : ∀ (a' : Act) (w' : World) (F' : FZ) (m' : MP) (tm' : TM) (st' : ST) (nx' : Nat), Rel (fun g => w.heap.size ≤ g) w F (fun _ => none) [] (fun b => nx' ≤ b) F' m' fn.ntmps tm' st' a' w' → (resR P tm' fn.results.toList []).go st' (fun r _ => r = con.res x) →
      a'.defers = [] ∧ ∃ v, (results fn a'.tmps).run P w' = .ok v w' ∧ ∃ v_1 F', Ending.returned v = Ending.returned v_1 ∧ Below w.heap.size w w' ∧ (∀ g j, F g j → F' g j) ∧ (∀ g j, F' g j → F g j ∨ w.heap.size ≤ g) ∧ (∀ g j, F' g j → g < w'.heap.size) ∧ RC F' w'.heap (con.res x) v_1 := by
    intro a' w' F' m' tm' st' nx' hR' hg
    obtain ⟨F1, st1, vs1, c1, r1, r2, r3, r4⟩ := resR_sound fn.results.toList [] [] F' st' hR' hg rfl (by simp)
    subst r4
    exact ⟨hR'.hde, _, results_eq fn a'.tmps w' vs1 r2, _, F1, rfl, r1.below.below, r1.f0, r1.f1, r1.f2, r3⟩
  intro e a' w' hpo
  cases e with
  | normal => obtain ⟨F', m', tm', st', nx', hR', hg⟩ := hpo; exact fin a' w' F' m' tm' st' nx' hR' hg
  | ret => obtain ⟨F', m', tm', st', nx', hR', hg⟩ := hpo; exact fin a' w' F' m' tm' st' nx' hR' hg
  | exit id => obtain ⟨F', m', tm', st', nx', hR', hg⟩ := hpo; exact hg.elim
  | goto l => exact hpo.elim
  | panic c => exact hpo.elim
  | outgrown => exact hpo.elim

theorem soundE_of_awp (hC : CtxOK P C) (hmix : P.follows .mixedOrders = true) {f : FuncId} {fn : Func} {c : Code} (hf : P.funcs[f]? = some fn) (hb : fn.body = some c) {con : Con} {e : Eff con.α}
    (h : ∀ x, con.ok x → (con.enc x).length ≤ fn.ntmps ∧ awp P C fn.ntmps (e.pre x).length c (fun en tm st nx => match en with
      | .exit _ => False
      | _ => (resR P tm fn.results.toList []).go st fun r st' => r = con.res x ∧ postB 0 (e.post x) st') (startT (con.enc x)) (startS (e.pre x)) (e.pre x).length) : SoundE P f con e := by
  intro x m F w vs hF hm hl hv hpre hinj hok
  obtain ⟨hlen, hawp⟩ := h x hok
  generalize havs : con.enc x = avs at hlen hawp hv hl
  refine callsIn_wide.1 (callsIn_of_wp (n := 0) hf hb trivial ?_)
  have hR : Rel (Handed m w) w F m [] (fun b => (e.pre x).length ≤ b) F m fn.ntmps (startT avs) (startS (e.pre x)) { tmps := vs.toArray ++ Array.replicate (fn.ntmps - vs.toArray.size) undef, defers := [] } w := by
    refine { htm := fun i => ?_, hsz := by simp; omega, hde := rfl, hst := fun b p hp => hpre b p (by rwa [look_startS] at hp), inj := fun b b' g c c' _ _ h1 h2 => hinj b b' g c c' h1 h2, fresh := fun b hb => ⟨?_, ?_⟩, pin := fun b y e => e, keep := Keeps.refl _ _, f0 := fun _ _ e => e, f1 := fun _ _ e => .inl e, f2 := hF, mlt := fun b g c hm' => (hm b g c hm').2, below := Own.refl _ _, hb := fun _ e => .inr e }
    · have e : look (startT avs) i = avs[i]? := by
        unfold startT
        rw [List.range_eq_range', look_start avs 0 i]
        simp
      rw [e]
      cases hi : avs[i]? with
      | none => exact trivial
      | some c =>
        have hil : i < avs.length := (List.getElem?_eq_some_iff.1 hi).1
        have hx : vs[i]? = some (vs[i]'(by omega)) := List.getElem?_eq_getElem (by omega)
        have := hv i c _ hi hx
        simp only [Option.getD_some]
        have e2 : (vs.toArray ++ Array.replicate (fn.ntmps - vs.toArray.size) undef).getD i undef = vs[i]'(by omega) := by
          rw [Array.getD_eq_getD_getElem?, Array.getElem?_append_left (by simp; omega)]
          simp [hx]
        rw [e2]
        exact this
    · rw [look_startS]; exact List.getElem?_eq_none hb
    · cases hb' : m b with
      | none => rfl
      | some y => have := (hm b y.1 y.2 hb').1; omega
  refine awp_sound (pins := (e.pre x).length) hC wide_wide hmix (fun b y hy => (hm b y.1 y.2 hy).1) c _ _ F _ _ _ _ _ w hR hawp ?_
  have fin : ∀ (a' : Act) (w' : World) (F' : FZ) (m' : MP) (tm' : TM) (st' : ST) (nx' : Nat), Rel (Handed m w) w F m [] (fun b => nx' ≤ b) F' m' fn.ntmps tm' st' a' w' → (resR P tm' fn.results.toList []).go st' (fun r st2 => r = con.res x ∧ postB 0 (e.post x) st2) →
      a'.defers = [] ∧ ∃ v, (results fn a'.tmps).run P w' = .ok v w' ∧ ∃ v_1 F' m', Ending.returned v = Ending.returned v_1 ∧ Own (Handed m w) w w' ∧ Keeps F w.heap w'.heap ∧ (∀ b y, m b = some y → m' b = some y) ∧ (∀ g j, F g j → F' g j) ∧ (∀ g j, F' g j → F g j ∨ Handed m w g) ∧
      (∀ g j, F' g j → g < w'.heap.size) ∧ RC F' w'.heap (con.res x) v_1 ∧ ∀ (i : Nat) (p : Bx), (e.post x)[i]? = some p → RBx (Handed m w) m' F' w'.heap i p := by
    intro a' w' F' m' tm' st' nx' hR' hg
    obtain ⟨F1, st1, vs1, c1, r1, r2, r3, r4, r5⟩ := resR_sound fn.results.toList [] [] F' st' hR' hg rfl (by simp)
    subst r4
    refine ⟨hR'.hde, _, results_eq fn a'.tmps w' vs1 r2, _, F1, m', rfl, r1.below, r1.keep, r1.pin, r1.f0, r1.f1, r1.f2, r3, fun i p hp => ?_⟩
    have := postB_get r5 i p hp
    rw [Nat.zero_add] at this
    exact r1.hst i p this
  intro en a' w' hpo
  cases en with
  | normal => obtain ⟨F', m', tm', st', nx', hR', hg⟩ := hpo; exact fin a' w' F' m' tm' st' nx' hR' hg
  | ret => obtain ⟨F', m', tm', st', nx', hR', hg⟩ := hpo; exact fin a' w' F' m' tm' st' nx' hR' hg
  | exit id => obtain ⟨F', m', tm', st', nx', hR', hg⟩ := hpo; exact hg.elim
  | goto l => exact hpo.elim
  | panic c => exact hpo.elim
  | outgrown => exact hpo.elim

end
end Go.Ev
/- Contracts at hand. -/
set_option linter.unusedVariables false
set_option linter.unusedSimpArgs false
namespace Go.Ev

def ctx : List (FuncId × Con) → FuncId → Option Con
  | [], _ => none
  | (g, c) :: l, f => match Nat.beq g f with
    | true => some c
    | false => ctx l f

theorem ctx_nil {P : Program} : CtxOK P (ctx []) := fun _ _ h => by cases h
theorem ctx_cons {P : Program} {g : FuncId} {c : Con} {l : List (FuncId × Con)} (h : Sound P g c ∧ EntersOK P g) (k : CtxOK P (ctx l)) : CtxOK P (ctx ((g, c) :: l)) := by
  intro f c' hf
  simp only [ctx] at hf
  split at hf
  · next hb => have := Nat.eq_of_beq_eq_true hb; subst this; cases hf; exact h
  · exact k f c' hf

/-- A contract, and that the function is entered. -/
def Has (P : Program) (f : FuncId) (c : Con) : Prop := Sound P f c ∧ EntersOK P f

theorem has_of {P : Program} {C : FuncId → Option Con} (hC : CtxOK P C) (hmix : P.follows .mixedOrders = true) {f : FuncId} {fn : Func} {c : Code} (hf : P.funcs[f]? = some fn) (hb : fn.body = some c)
    (hn : (fn.name == "runtime.NumGoroutine") = false) {con : Con}
    (h : ∀ x, con.ok x → (con.enc x).length ≤ fn.ntmps ∧ awp P C fn.ntmps 0 c (fun e tm st nx => match e with
      | .exit _ => False
      | _ => (resR P tm fn.results.toList []).go st fun r _ => r = con.res x) (startT (con.enc x)) [] 0) (he : con.eff = none := by rfl) (hr : con.frs = .keep := by rfl) : Has P f con :=
  ⟨by simp only [Sound, he, hr]; exact soundV_of_awp hC hmix hf hb h, enters_ok hf hn (by simp [hb])⟩

theorem has_ofE {P : Program} {C : FuncId → Option Con} (hC : CtxOK P C) (hmix : P.follows .mixedOrders = true) {f : FuncId} {fn : Func} {c : Code} (hf : P.funcs[f]? = some fn) (hb : fn.body = some c)
    (hn : (fn.name == "runtime.NumGoroutine") = false) {con : Con} {e : Eff con.α}
    (h : ∀ x, con.ok x → (con.enc x).length ≤ fn.ntmps ∧ awp P C fn.ntmps (e.pre x).length c (fun en tm st nx => match en with
      | .exit _ => False
      | _ => (resR P tm fn.results.toList []).go st fun r st' => r = con.res x ∧ postB 0 (e.post x) st') (startT (con.enc x)) (startS (e.pre x)) (e.pre x).length) (he : con.eff = some e := by rfl) : Has P f con :=
  ⟨by simp only [Sound, he]; exact soundE_of_awp hC hmix hf hb h, enters_ok hf hn (by simp [hb])⟩

/-- What is asked at a function's end. -/
def endV (P : Program) (fn : Func) (r : V) (e : AX) (tm : TM) (st : ST) (nx : Nat) : Prop := match e with
  | .exit _ => False
  | _ => (resR P tm fn.results.toList []).go st fun r' _ => r' = r
def endE (P : Program) (fn : Func) (r : V) (ps : List Bx) (e : AX) (tm : TM) (st : ST) (nx : Nat) : Prop := match e with
  | .exit _ => False
  | _ => (resR P tm fn.results.toList []).go st fun r' st' => r' = r ∧ postB 0 ps st'

/-- A function by its body: to be followed where it is called. -/
def cRun (P : Program) (C : FuncId → Option Con) (fn : Func) (c : Code) : Con := { α := List V × V, enc := Prod.fst, ok := fun x => x.1.length ≤ fn.ntmps ∧ awp P C fn.ntmps 0 c (endV P fn x.2) (startT x.1) [] 0, res := Prod.snd }
theorem has_run {P : Program} {C : FuncId → Option Con} (hC : CtxOK P C) (hmix : P.follows .mixedOrders = true) {f : FuncId} {fn : Func} {c : Code} (hf : P.funcs[f]? = some fn) (hb : fn.body = some c)
    (hn : (fn.name == "runtime.NumGoroutine") = false) : Has P f (cRun P C fn c) := has_of hC hmix hf hb hn fun x hx => hx

structure RunE where
  args : List V
  pre : List Bx
  res : V
  post : List Bx
/-- The same, with boxes handed over. -/
def cRunE (P : Program) (C : FuncId → Option Con) (fn : Func) (c : Code) (own : List Bool) : Con := { α := RunE, enc := RunE.args, ok := fun x => x.args.length ≤ fn.ntmps ∧ awp P C fn.ntmps x.pre.length c (endE P fn x.res x.post) (startT x.args) (startS x.pre) x.pre.length, res := RunE.res, eff := some ⟨own, RunE.pre, RunE.post⟩ }
theorem has_runE {P : Program} {C : FuncId → Option Con} (hC : CtxOK P C) (hmix : P.follows .mixedOrders = true) {f : FuncId} {fn : Func} {c : Code} (hf : P.funcs[f]? = some fn) (hb : fn.body = some c)
    (hn : (fn.name == "runtime.NumGoroutine") = false) (own : List Bool) : Has P f (cRunE P C fn c own) := has_ofE (e := ⟨own, RunE.pre, RunE.post⟩) hC hmix hf hb hn fun x hx => hx

/-- The bool of a value. -/
def isT : V → Bool
  | .v (.bool b) => b
  | _ => false

theorem iEq {a b : Int} {k : IntKind} (h : a = b) : some (V.v (.int k a)) = some (V.v (.int k b)) := by rw [h]
theorem wrap_ok {n : Int} (h : -9223372036854775808 ≤ n) (h' : n ≤ 9223372036854775807) : n = IntKind.i64.wrap n := (IntWalk.i64_in n ⟨h, h'⟩).symm

theorem wrap_succ {k : Nat} (h : k < 9223372036854775807) : ((k + 1 : Nat) : Int) = IntKind.i64.wrap ((k : Int) + 1) := by
  rw [← wrap_ok (n := (k : Int) + 1) (by omega) (by omega)]
  rfl

/-- Neither a box nor a closure. -/
def plain : V → Bool
  | .box _ _ => false
  | .osl _ _ => false
  | .yld _ => false
  | .fn _ _ => false
  | .ag _ => false
  | _ => true

theorem ren_caps {caps : List V} (h : caps.all plain = true) (r : List (Nat × Nat)) : caps.mapM (renP r) = some caps := by
  induction caps with
  | nil => rfl
  | cons c caps ih =>
    simp only [List.all_cons, Bool.and_eq_true] at h
    have e : renP r c = some c := by
      have h1 := h.1
      clear ih h
      cases c <;> first | rfl | (simp [plain] at h1)
    simp [List.mapM_cons, e, ih h.2]

theorem ren_fn {g : FuncId} {caps : List V} (h : caps.all plain = true) (r : List (Nat × Nat)) : renV r (.fn g caps) = some (.fn g caps) := by
  simp [renV, ren_caps h]

theorem fzs_plain {k : List V → RM} : ∀ {l : List V}, l.all plain = true → fzs l k = k l := by
  have key : ∀ (l : List V) (k : List V → RM), l.all plain = true → mapRM (fz 4) l k = k l := by
    intro l
    induction l with
    | nil => intro k _; rfl
    | cons c l ih =>
      intro k h
      simp only [List.all_cons, Bool.and_eq_true] at h
      have e : ∀ k, fz 4 c k = k c := by
        intro k
        have h1 := h.1
        clear ih h
        cases c <;> first | rfl | (simp [plain] at h1)
      rw [mapRM, e, ih _ h.2]
  intro l h
  exact key l k h

/-- A call of a closure that is known by its contract alone. -/
theorem go_call {P : Program} {C : FuncId → Option Con} {id : Nat} {ρ : Operand → V} {f : Operand} {args : Array Operand} {ts : Array TypeId} {st : ST} {K : V → ST → Prop} {g : FuncId} {caps avs : List V} {c : Con} {y : c.α}
    (hf : ρ f = .fn g caps) (hc : C g = some c) (hce : c.eff = none) (hp : caps.all plain = true) (ha : args.toList.map ρ = avs) (hap : avs.all plain = true) (he : c.enc y = avs ++ caps) (hok : c.ok y)
    (hk : (RM.retF (c.res y)).go st K) (hcf : c.frs = .keep := by rfl) : (opR P C id ρ (.call { callee := .value f, args := args, argTypes := ts })).go st K := by
  simp only [opR, hf, hc, hce, hcf, ha]
  rw [fzs_plain (by rw [List.all_append, hap, hp]; rfl)]
  exact ⟨y, ⟨levs_eq he.symm, hok⟩, hk⟩
end Go.Ev
/- Slices of records; a condition for all elements. -/
set_option linter.unusedVariables false
set_option linter.unusedSimpArgs false
namespace Go.Ev

/-- Numbers of 64 bits. -/
abbrev wr (n : Int) : Int := IntKind.i64.wrap n

/-- The cells of a slice of records. -/
def recs {α : Type} (enc : α → List V) (l : List α) : List V := l.flatMap enc

theorem recs_length {α : Type} {enc : α → List V} {s : Nat} (h : ∀ a, (enc a).length = s) (l : List α) : (recs enc l).length = l.length * s := by
  induction l with
  | nil => simp [recs]
  | cons a l ih => simp only [recs, List.flatMap_cons, List.length_append, h, List.length_cons] at ih ⊢; rw [ih, Nat.add_mul]; omega

theorem rlen {α : Type} {enc : α → List V} {s : Nat} (h : ∀ a, (enc a).length = s) (l : List α) : l.length * s = (recs enc l).length := (recs_length h l).symm
theorem recs_drop {α : Type} {enc : α → List V} {s : Nat} (h : ∀ a, (enc a).length = s) (l : List α) (k : Nat) : (recs enc l).drop (k * s) = recs enc (l.drop k) := by
  induction l generalizing k with
  | nil => simp [recs]
  | cons a l ih =>
    cases k with
    | zero => simp
    | succ k =>
      have e : (k + 1) * s = (enc a).length + k * s := by rw [h, Nat.add_mul]; omega
      rw [show recs enc (a :: l) = enc a ++ recs enc l from rfl, e, ← List.drop_drop, List.drop_left, ih]
      rfl

theorem recs_get {α : Type} {enc : α → List V} {s : Nat} (h : ∀ a, (enc a).length = s) (l : List α) (k : Nat) (hk : k < l.length) : ((recs enc l).drop (k * s)).take s = enc l[k] := by
  rw [recs_drop h, List.drop_eq_getElem_cons hk]
  rw [show recs enc (l[k] :: l.drop (k + 1)) = enc l[k] ++ recs enc (l.drop (k + 1)) from rfl, ← h l[k], List.take_left]

theorem recs_pre {α : Type} {enc : α → List V} {s : Nat} (h : ∀ a, (enc a).length = s) {l : List α} {k : Nat} (hk : k < l.length) (hs : 0 < s) :
    0 ≤ (k : Int) ∧ (k : Int) < (l.length : Int) ∧ l.length * s = (recs enc l).length ∧ 0 < s := by
  rw [recs_length h]; omega

theorem recs_load {α : Type} {enc : α → List V} {s : Nat} (h : ∀ a, (enc a).length = s) {l : List α} {k : Nat} (hk : k < l.length) : 0 + s ≤ ((recs enc l).drop (k * s)).length := by
  rw [recs_drop h, recs_length h, List.length_drop]
  have : 1 * s ≤ (l.length - k) * s := Nat.mul_le_mul_right s (by omega)
  omega

theorem all_false {α : Type} {l : List α} {p : α → Bool} {k : Nat} (h : k < l.length) (hp : p l[k] = false) : l.all p = false := by
  cases e : l.all p with
  | false => rfl
  | true => rw [List.all_eq_true] at e; rw [e l[k] (by simp)] at hp; cases hp

structure Every (α : Type) where
  l : List α
  g : FuncId
  caps : List V
  p : α → Bool
def cEvery {α : Type} (enc : α → List V) (C : FuncId → Option Con) : Con := { α := Every α, enc := fun x => [.sl (recs enc x.l) x.l.length, .fn x.g x.caps], ok := fun x => x.l.length ≤ 140737488355328 ∧ x.caps.all plain = true ∧ ∃ c, C x.g = some c ∧ c.eff = none ∧ ∀ e ∈ x.l, ∃ y, c.enc y = .agg (enc e) :: x.caps ∧ c.ok y ∧ c.res y = (V.v (.bool (x.p e))), res := fun x => (V.v (.bool (x.l.all x.p))) }

theorem foldl_take {α β : Type} (f : β → α → β) (b : β) (l : List α) (k : Nat) (h : k < l.length) : (l.take (k + 1)).foldl f b = f ((l.take k).foldl f b) l[k] := by
  rw [List.take_succ_eq_append_getElem h, List.foldl_append]
  rfl


/-- A part of a record. -/
theorem recs_sub {α : Type} {enc : α → List V} {s : Nat} (h : ∀ a, (enc a).length = s) (l : List α) (k o n : Nat) (hk : k < l.length) (hn : o + n ≤ s) :
    (((recs enc l).drop (k * s)).drop o).take n = ((enc l[k]).drop o).take n := by
  rw [← recs_get h l k hk, List.drop_take, List.take_take, Nat.min_eq_left (by omega)]
theorem recs_sub_len {α : Type} {enc : α → List V} {s : Nat} (h : ∀ a, (enc a).length = s) {l : List α} {k o n : Nat} (hk : k < l.length) (hn : o + n ≤ s) :
    0 + n ≤ (((recs enc l).drop (k * s)).drop o).length := by
  have := recs_load (s := s) h hk
  rw [List.length_drop]; omega
theorem recs_set {α : Type} {enc : α → List V} {s : Nat} (h : ∀ a, (enc a).length = s) (l : List α) (k : Nat) (x : α) (hk : k < l.length) :
    (recs enc l).take (k * s) ++ enc x ++ (recs enc l).drop (k * s + s) = recs enc (l.set k x) := by
  have e1 : (recs enc l).take (k * s) = recs enc (l.take k) := by
    have : recs enc l = recs enc (l.take k) ++ recs enc (l.drop k) := by
      simp only [recs, ← List.flatMap_append, List.take_append_drop]
    rw [this, ← show (recs enc (l.take k)).length = k * s by rw [recs_length h, List.length_take, Nat.min_eq_left (by omega)], List.take_left]
  have e2 : k * s + s = (k + 1) * s := by rw [Nat.add_mul]; omega
  rw [e1, e2, recs_drop h, List.set_eq_take_append_cons_drop, if_pos hk]
  simp [recs, List.flatMap_append]
theorem recs_replicate {α : Type} {enc : α → List V} (x : α) (n : Nat) : (List.replicate n (enc x)).flatten = recs enc (List.replicate n x) := by
  induction n with
  | zero => rfl
  | succ n ih => simp [List.replicate_succ, recs] at ih ⊢; exact ih

theorem recs_cell {α : Type} {enc : α → List V} {s : Nat} (h : ∀ a, (enc a).length = s) (l : List α) (k o : Nat) (hk : k < l.length) (ho : o < s) :
    (((((recs enc l).drop (k * s)).drop o)[0]?).getD .top) = (((enc l[k])[o]?).getD .top) := by
  have e := recs_sub h l k o 1 hk (by omega)
  have e1 : ((((recs enc l).drop (k * s)).drop o).take 1)[0]? = ((((enc l[k]).drop o)).take 1)[0]? := by rw [e]
  rw [List.getElem?_take, List.getElem?_take, if_pos (by decide), if_pos (by decide)] at e1
  rw [e1, List.getElem?_drop, Nat.add_zero]

theorem go_cell {α : Type} {enc : α → List V} {s : Nat} (h : ∀ a, (enc a).length = s) {l : List α} {k o : Nat} {v : V} (hk : k < l.length) (ho : o < s) (hv : (((enc l[k])[o]?).getD .top) = v) {d : Decidable (0 < (((recs enc l).drop (k * s)).drop o).length)} {K : V → ST → Prop} {st : ST}
    (hn : (RM.retF v).go st K) : (@RM.dec (0 < (((recs enc l).drop (k * s)).drop o).length) (RM.retF (((((recs enc l).drop (k * s)).drop o)[0]?).getD .top)) d).go st K := by
  refine ⟨?_, ?_⟩
  · have := recs_sub_len (s := s) (o := o) (n := 1) h hk (by omega); omega
  · rw [recs_cell h l k o hk ho, hv]; exact hn
theorem goT_cell {α : Type} {enc : α → List V} {s : Nat} (h : ∀ a, (enc a).length = s) {l : List α} {k o : Nat} {v : V} (hk : k < l.length) (ho : o < s) (hv : (((enc l[k])[o]?).getD .top) = v) {d : Decidable (0 < (((recs enc l).drop (k * s)).drop o).length)} {K : V → ST → List Nat → List Nat → Prop} {st : ST} {rs ws : List Nat}
    (hn : (RM.retF v).goT st rs ws K) : (@RM.dec (0 < (((recs enc l).drop (k * s)).drop o).length) (RM.retF (((((recs enc l).drop (k * s)).drop o)[0]?).getD .top)) d).goT st rs ws K := by
  refine ⟨?_, ?_⟩
  · have := recs_sub_len (s := s) (o := o) (n := 1) h hk (by omega); omega
  · rw [recs_cell h l k o hk ho, hv]; exact hn

theorem goT_cell2 {α : Type} {enc : α → List V} {s : Nat} (h : ∀ a, (enc a).length = s) {l : List α} {k o o2 : Nat} {v : V} (hk : k < l.length) (ho : o + o2 < s) (hv : (((enc l[k])[o + o2]?).getD .top) = v) {d : Decidable (0 < ((((recs enc l).drop (k * s)).drop o).drop o2).length)} {K : V → ST → List Nat → List Nat → Prop} {st : ST} {rs ws : List Nat}
    (hn : (RM.retF v).goT st rs ws K) : (@RM.dec (0 < ((((recs enc l).drop (k * s)).drop o).drop o2).length) (RM.retF ((((((recs enc l).drop (k * s)).drop o).drop o2)[0]?).getD .top)) d).goT st rs ws K := by
  refine ⟨?_, ?_⟩
  · have := recs_sub_len (s := s) (o := o + o2) (n := 1) h hk (by omega); rw [List.drop_drop]; omega
  · rw [List.drop_drop, recs_cell h l k (o + o2) hk ho, hv]; exact hn
theorem go_cell2 {α : Type} {enc : α → List V} {s : Nat} (h : ∀ a, (enc a).length = s) {l : List α} {k o o2 : Nat} {v : V} (hk : k < l.length) (ho : o + o2 < s) (hv : (((enc l[k])[o + o2]?).getD .top) = v) {d : Decidable (0 < ((((recs enc l).drop (k * s)).drop o).drop o2).length)} {K : V → ST → Prop} {st : ST}
    (hn : (RM.retF v).go st K) : (@RM.dec (0 < ((((recs enc l).drop (k * s)).drop o).drop o2).length) (RM.retF ((((((recs enc l).drop (k * s)).drop o).drop o2)[0]?).getD .top)) d).go st K := by
  refine ⟨?_, ?_⟩
  · have := recs_sub_len (s := s) (o := o + o2) (n := 1) h hk (by omega); rw [List.drop_drop]; omega
  · rw [List.drop_drop, recs_cell h l k (o + o2) hk ho, hv]; exact hn
end Go.Ev
/- Steps of the evaluator, one at a time: what follows is not looked into. -/
set_option linter.unusedVariables false
set_option linter.unusedSimpArgs false
namespace Go.Ev

section
variable {P : Program} {C : FuncId → Option Con} {sz pins nx id : Nat} {tm : TM} {st : ST}

theorem go_ret {K : V → ST → Prop} {v : V} (h : K v st) : (RM.ret v).go st K := h
theorem go_req {K : V → ST → Prop} {p : Prop} {d : Decidable p} {k : RM} (hp : p) (h : k.go st K) : (@RM.dec p k d).go st K := ⟨hp, h⟩
theorem go_reqP {K : V → ST → Prop} {p : Prop} {k : RM} (hp : p) (h : k.go st K) : (RM.req p k).go st K := ⟨hp, h⟩
theorem go_get {K : V → ST → Prop} {b : Nat} {k : Bx → RM} {x : Bx} (hx : look st b = some x) (h : (k x).go st K) : (RM.get b k).go st K := by
  simp only [RM.go, hx]; exact h
theorem go_put {K : V → ST → Prop} {b : Nat} {x : Bx} {k : RM} (h : k.go ((b, x) :: st) K) : (RM.put b x k).go st K := h
theorem go_exi {K : V → ST → Prop} {α : Type} {p : α → Prop} {k : α → RM} (x : α) (hp : p x) (h : (k x).go st K) : (RM.exi α p k).go st K := ⟨x, hp, h⟩

theorem ops_nil {all : List Oper} {K : TM → ST → Prop} (h : K tm st) : evOps P C sz all [] id tm st K := h
theorem ops_cons {all : List Oper} {o : Oper} {os : List Oper} {K : TM → ST → Prop} (hd : okDst sz o.dst = true) (hg : o.guard = none)
    (h : (opR P C id (ev tm) o.op).go st fun v st' => evOps P C sz all os (id + 1) (putT tm o.dst v) st' K) : evOps P C sz all (o :: os) id tm st K := by
  unfold evOps
  simp only [hd, hg]
  exact h
theorem ops_take {all : List Oper} {o : Oper} {os : List Oper} {K : TM → ST → Prop} {j d : Nat} {want : Bool} (hd : okDst sz o.dst = true) (hg : o.guard = some (j, want)) (hj : (all[j]?).bind (·.dst) = some d) (hl : (look tm d).getD .top = .v (.bool want))
    (h : (opR P C id (ev tm) o.op).go st fun v st' => evOps P C sz all os (id + 1) (putT tm o.dst v) st' K) : evOps P C sz all (o :: os) id tm st K := by
  unfold evOps
  simp only [hd, hg, hj, hl]
  cases want with
  | true => exact h
  | false => exact h
theorem ops_skip {all : List Oper} {o : Oper} {os : List Oper} {K : TM → ST → Prop} {j d : Nat} {want : Bool} (hd : okDst sz o.dst = true) (hg : o.guard = some (j, want)) (hj : (all[j]?).bind (·.dst) = some d) (hl : (look tm d).getD .top = .v (.bool !want))
    (h : evOps P C sz all os (id + 1) (putT tm o.dst vU) st K) : evOps P C sz all (o :: os) id tm st K := by
  unfold evOps
  simp only [hd, hg, hj, hl]
  cases want with
  | true => exact h
  | false => exact h
theorem ops_skipU {all : List Oper} {o : Oper} {os : List Oper} {K : TM → ST → Prop} {j d : Nat} {want : Bool} {arr : Array Value} (hd : okDst sz o.dst = true) (hg : o.guard = some (j, want)) (hj : (all[j]?).bind (·.dst) = some d) (hl : (look tm d).getD .top = .v (.tuple arr))
    (h : evOps P C sz all os (id + 1) (putT tm o.dst vU) st K) : evOps P C sz all (o :: os) id tm st K := by
  unfold evOps
  simp only [hd, hg, hj, hl]
  exact h
/-- An open test. -/
theorem ops_test {all : List Oper} {o : Oper} {os : List Oper} {K : TM → ST → Prop} {j d : Nat} {want b : Bool} (hd : okDst sz o.dst = true) (hg : o.guard = some (j, want)) (hj : (all[j]?).bind (·.dst) = some d) (hl : (look tm d).getD .top = .v (.bool b))
    (h1 : b = want → (opR P C id (ev tm) o.op).go st fun v st' => evOps P C sz all os (id + 1) (putT tm o.dst v) st' K) (h2 : b = (!want) → evOps P C sz all os (id + 1) (putT tm o.dst vU) st K) : evOps P C sz all (o :: os) id tm st K := by
  unfold evOps
  simp only [hd, hg, hj, hl]
  cases want with
  | true => exact br_intro h1 h2
  | false => exact br_intro h2 h1

def seqK (P : Program) (C : FuncId → Option Con) (sz pins : Nat) (b : Code) (Q : AX → TM → ST → Nat → Prop) (e : AX) (tm : TM) (st : ST) (nx : Nat) : Prop := match e with
  | .normal => awp P C sz pins b Q tm st nx
  | e => Q e tm st nx
def blockK (id : Nat) (Q : AX → TM → ST → Nat → Prop) (e : AX) (tm : TM) (st : ST) (nx : Nat) : Prop := match e with
  | .exit j => match decide (j = id) with
    | true => Q .normal tm st nx
    | false => Q (.exit j) tm st nx
  | e => Q e tm st nx
def loopK (pins : Nat) {α : Type} (mk : α → LS) (μ : α → Nat) (x : α) (Q : AX → TM → ST → Nat → Prop) (e : AX) (tm : TM) (st : ST) (nx : Nat) : Prop := match e with
  | .normal => ∃ y r, Sub pins r (mk y).tm (mk y).st (mk y).nx tm st ∧ μ y < μ x
  | e => Q e tm st nx

variable {Q : AX → TM → ST → Nat → Prop} {a b c : Code}
theorem st_skip (h : Q .normal tm st nx) : awp P C sz pins .skip Q tm st nx := h
theorem st_region {i : Nat} {ops : Array Oper} {l : List Oper} {nx' : Nat} (hl : ops.toList = l) (hn : nx + ops.size = nx') (h : evOps P C sz l l nx tm st fun tm' st' => Q .normal tm' st' nx') : awp P C sz pins (.region i ops false) Q tm st nx := by
  subst hl hn
  exact h
theorem st_regionD {i : Nat} {ops : Array Oper} (ha : aheadB ops.toList = true) (h : evOpsD P C sz ops nx ops.toList 0 tm st [] fun tm' st' => Q .normal tm' st' (nx + ops.size)) : awp P C sz pins (.region i ops true) Q tm st nx := by
  simp only [awp, ha]
  exact h
theorem st_seq (h : awp P C sz pins a (seqK P C sz pins b Q) tm st nx) : awp P C sz pins (.seq a b) Q tm st nx := h
theorem st_cond {x : Operand} {p : Bool} (hc : ev tm x = .v (.bool p)) (h1 : p = true → awp P C sz pins a Q tm st nx) (h2 : p = false → awp P C sz pins b Q tm st nx) : awp P C sz pins (.cond x a b) Q tm st nx := by
  simp only [awp, hc]
  exact br_intro h1 h2
theorem st_condT {x : Operand} (hc : ev tm x = .v (.bool true)) (h1 : awp P C sz pins a Q tm st nx) : awp P C sz pins (.cond x a b) Q tm st nx := st_cond hc (fun _ => h1) (fun e => by cases e)
theorem st_condF {x : Operand} (hc : ev tm x = .v (.bool false)) (h1 : awp P C sz pins b Q tm st nx) : awp P C sz pins (.cond x a b) Q tm st nx := st_cond hc (fun e => by cases e) (fun _ => h1)
theorem st_block {i : Nat} (h : awp P C sz pins a (blockK i Q) tm st nx) : awp P C sz pins (.block i a) Q tm st nx := h
theorem st_exit {i : Nat} (h : Q (.exit i) tm st nx) : awp P C sz pins (.exit i) Q tm st nx := h
theorem st_ret (h : Q .ret tm st nx) : awp P C sz pins .ret Q tm st nx := h
theorem st_loop {α : Type} {mk : α → LS} {μ : α → Nat} (h0 : ∃ x r, Sub pins r (mk x).tm (mk x).st (mk x).nx tm st) (h : ∀ x, awp P C sz pins a (loopK pins mk μ x Q) (mk x).tm (mk x).st (mk x).nx) : awp P C sz pins (.loop a) Q tm st nx := ⟨α, mk, μ, h0, h⟩

theorem k_seq (h : awp P C sz pins b Q tm st nx) : seqK P C sz pins b Q .normal tm st nx := h
theorem k_seqX {i : Nat} (h : Q (.exit i) tm st nx) : seqK P C sz pins b Q (.exit i) tm st nx := h
theorem k_seqR (h : Q .ret tm st nx) : seqK P C sz pins b Q .ret tm st nx := h
theorem k_block {i : Nat} (h : Q .normal tm st nx) : blockK i Q .normal tm st nx := h
theorem k_blockX {i : Nat} (h : Q .normal tm st nx) : blockK i Q (.exit i) tm st nx := by simp only [blockK, decide_true]; exact h
theorem k_blockY {i j : Nat} (hj : decide (j = i) = false) (h : Q (.exit j) tm st nx) : blockK i Q (.exit j) tm st nx := by simp only [blockK, hj]; exact h
theorem k_blockR {i : Nat} (h : Q .ret tm st nx) : blockK i Q .ret tm st nx := h
theorem k_loop {α : Type} {mk : α → LS} {μ : α → Nat} {x : α} (y : α) (r : List (Nat × Nat)) (hs : Sub pins r (mk y).tm (mk y).st (mk y).nx tm st) (hl : μ y < μ x) : loopK pins mk μ x Q .normal tm st nx := ⟨y, r, hs, hl⟩
theorem k_loopX {α : Type} {mk : α → LS} {μ : α → Nat} {x : α} {i : Nat} (h : Q (.exit i) tm st nx) : loopK pins mk μ x Q (.exit i) tm st nx := h
theorem k_loopR {α : Type} {mk : α → LS} {μ : α → Nat} {x : α} (h : Q .ret tm st nx) : loopK pins mk μ x Q .ret tm st nx := h

/-! regions whose order is open -/
variable {rs ws : List Nat}
theorem goT_ret {K : V → ST → List Nat → List Nat → Prop} {v : V} (h : K v st rs ws) : (RM.ret v).goT st rs ws K := h
theorem goT_req {K : V → ST → List Nat → List Nat → Prop} {p : Prop} {d : Decidable p} {k : RM} (hp : p) (h : k.goT st rs ws K) : (@RM.dec p k d).goT st rs ws K := ⟨hp, h⟩
theorem goT_reqP {K : V → ST → List Nat → List Nat → Prop} {p : Prop} {k : RM} (hp : p) (h : k.goT st rs ws K) : (RM.req p k).goT st rs ws K := ⟨hp, h⟩
theorem goT_get {K : V → ST → List Nat → List Nat → Prop} {b : Nat} {k : Bx → RM} {x : Bx} (hx : look st b = some x) (h : (k x).goT st (b :: rs) ws K) : (RM.get b k).goT st rs ws K := by
  simp only [RM.goT, hx]; exact h
theorem goT_put {K : V → ST → List Nat → List Nat → Prop} {b : Nat} {x : Bx} {k : RM} (h : k.goT ((b, x) :: st) rs (b :: ws) K) : (RM.put b x k).goT st rs ws K := h
theorem goT_exi {K : V → ST → List Nat → List Nat → Prop} {α : Type} {p : α → Prop} {k : α → RM} (x : α) (hp : p x) (h : (k x).goT st rs ws K) : (RM.exi α p k).goT st rs ws K := ⟨x, hp, h⟩

def dK (P : Program) (C : FuncId → Option Con) (sz : Nat) (ops : Array Oper) (nx : Nat) (o : Oper) (os : List Oper) (i : Nat) (tm : TM) (prev : List (Nat × Oper × List Nat × List Nat)) (K : TM → ST → Prop) (v : V) (st : ST) (rs ws : List Nat) : Prop :=
  match indepB ops o rs ws prev with
  | false => False
  | true => evOpsD P C sz ops nx os (i + 1) (putT tm o.dst v) st ((i, o, rs, ws) :: prev) K

variable {ops : Array Oper} {o : Oper} {os : List Oper} {i : Nat} {prev : List (Nat × Oper × List Nat × List Nat)} {K : TM → ST → Prop}
theorem d_step {v : V} (hi : indepB ops o rs ws prev = true) (h : evOpsD P C sz ops nx os (i + 1) (putT tm o.dst v) st ((i, o, rs, ws) :: prev) K) : dK P C sz ops nx o os i tm prev K v st rs ws := by
  simp only [dK, hi]; exact h
theorem d_nil (h : K tm st) : evOpsD P C sz ops nx [] i tm st prev K := h
theorem d_cons (hd : okDst sz o.dst = true) (hg : o.guard = none) (h : (opR P C (nx + i) (ev tm) o.op).goT st [] [] (dK P C sz ops nx o os i tm prev K)) : evOpsD P C sz ops nx (o :: os) i tm st prev K := by
  unfold evOpsD
  simp only [hd, hg]
  exact h
theorem d_take {j d : Nat} {want : Bool} (hd : okDst sz o.dst = true) (hg : o.guard = some (j, want)) (hj : (ops.toList[j]?).bind (·.dst) = some d) (hl : (look tm d).getD .top = .v (.bool want))
    (h : (opR P C (nx + i) (ev tm) o.op).goT st [] [] (dK P C sz ops nx o os i tm prev K)) : evOpsD P C sz ops nx (o :: os) i tm st prev K := by
  unfold evOpsD
  simp only [hd, hg, hj, hl]
  cases want with
  | true => exact h
  | false => exact h
theorem d_skip {j d : Nat} {want : Bool} (hd : okDst sz o.dst = true) (hg : o.guard = some (j, want)) (hj : (ops.toList[j]?).bind (·.dst) = some d) (hl : (look tm d).getD .top = .v (.bool !want)) (hi : indepB ops o [] [] prev = true)
    (h : evOpsD P C sz ops nx os (i + 1) (putT tm o.dst vU) st ((i, o, [], []) :: prev) K) : evOpsD P C sz ops nx (o :: os) i tm st prev K := by
  unfold evOpsD
  simp only [hd, hg, hj, hl]
  cases want with
  | true => simp only [Bool.not_true, br, hi]; exact h
  | false => simp only [Bool.not_false, br, hi]; exact h
theorem d_skipU {j d : Nat} {want : Bool} {arr : Array Value} (hd : okDst sz o.dst = true) (hg : o.guard = some (j, want)) (hj : (ops.toList[j]?).bind (·.dst) = some d) (hl : (look tm d).getD .top = .v (.tuple arr)) (hi : indepB ops o [] [] prev = true)
    (h : evOpsD P C sz ops nx os (i + 1) (putT tm o.dst vU) st ((i, o, [], []) :: prev) K) : evOpsD P C sz ops nx (o :: os) i tm st prev K := by
  unfold evOpsD
  simp only [hd, hg, hj, hl, hi]
  exact h
theorem d_test {j d : Nat} {want b : Bool} (hd : okDst sz o.dst = true) (hg : o.guard = some (j, want)) (hj : (ops.toList[j]?).bind (·.dst) = some d) (hl : (look tm d).getD .top = .v (.bool b)) (hi : indepB ops o [] [] prev = true)
    (h1 : b = want → (opR P C (nx + i) (ev tm) o.op).goT st [] [] (dK P C sz ops nx o os i tm prev K)) (h2 : b = (!want) → evOpsD P C sz ops nx os (i + 1) (putT tm o.dst vU) st ((i, o, [], []) :: prev) K) : evOpsD P C sz ops nx (o :: os) i tm st prev K := by
  unfold evOpsD
  simp only [hd, hg, hj, hl]
  cases want with
  | true => exact br_intro h1 (fun e => by simp only [hi]; exact h2 e)
  | false => exact br_intro (fun e => by simp only [hi]; exact h2 e) h1
end
end Go.Ev
/- Functions over typed data, and runs that follow them. -/
set_option linter.unusedVariables false
set_option linter.unusedSimpArgs false
namespace Go.Ev
open Go.RowKit

/-- Do something with the goal, and go on. -/
theorem stp {p q : Prop} (h : q) (c : q → p) : p := c h

/-- Rounds of a loop, fewer than n. -/
def loopN {S E : Type} (step : S → Option (S ⊕ E)) : Nat → S → Option E
  | 0, _ => none
  | n + 1, s => match step s with
    | none => none
    | some (.inl s') => loopN step n s'
    | some (.inr e) => some e

theorem loopN_succ {S E : Type} {step : S → Option (S ⊕ E)} : ∀ {n : Nat} {s : S} {e : E}, loopN step n s = some e → loopN step (n + 1) s = some e
  | 0, _, _, h => by cases h
  | n + 1, s, e, h => by
    unfold loopN at h ⊢
    split at h
    · cases h
    · exact loopN_succ h
    · exact h
theorem loopN_le {S E : Type} {step : S → Option (S ⊕ E)} {n m : Nat} (hm : n ≤ m) {s : S} {e : E} (h : loopN step n s = some e) : loopN step m s = some e := by
  induction hm with
  | refl => exact h
  | step _ ih => exact loopN_succ ih

open Classical in
/-- A loop, as long as it needs. -/
noncomputable def loopC {S E : Type} (step : S → Option (S ⊕ E)) (s : S) : Option E :=
  if h : ∃ n e, loopN step n s = some e then some h.choose_spec.choose else none

theorem loopC_of {S E : Type} {step : S → Option (S ⊕ E)} {s : S} {n : Nat} {e : E} (h : loopN step n s = some e) : loopC step s = some e := by
  have hx : ∃ n e, loopN step n s = some e := ⟨n, e, h⟩
  unfold loopC
  rw [dif_pos hx]
  have h1 := loopN_le (Nat.le_max_left n hx.choose) h
  have h2 := loopN_le (Nat.le_max_right n hx.choose) hx.choose_spec.choose_spec
  rw [h1] at h2
  exact h2.symm
theorem loopC_ex {S E : Type} {step : S → Option (S ⊕ E)} {s : S} {e : E} (h : loopC step s = some e) : ∃ n, loopN step n s = some e := by
  unfold loopC at h
  split at h
  · next hx =>
    obtain rfl := Option.some.inj h
    exact ⟨_, hx.choose_spec.choose_spec⟩
  · cases h
theorem loopC_eq {S E : Type} (step : S → Option (S ⊕ E)) (s : S) : loopC step s = match step s with
    | none => none
    | some (.inl s') => loopC step s'
    | some (.inr e) => some e := by
  cases hs : step s with
  | none =>
    cases h : loopC step s with
    | none => rfl
    | some e => obtain ⟨n, hn⟩ := loopC_ex h; cases n with
      | zero => cases hn
      | succ n => simp [loopN, hs] at hn
  | some o =>
    cases o with
    | inr e => exact loopC_of (n := 1) (by simp [loopN, hs])
    | inl s' =>
      simp only
      cases h : loopC step s' with
      | some e => obtain ⟨n, hn⟩ := loopC_ex h; exact loopC_of (n := n + 1) (by simp [loopN, hs, hn])
      | none =>
        cases h2 : loopC step s with
        | none => rfl
        | some e =>
          obtain ⟨n, hn⟩ := loopC_ex h2
          cases n with
          | zero => cases hn
          | succ n => simp only [loopN, hs] at hn; rw [loopC_of hn] at h; cases h

/-- What a round does next, n rounds at most. -/
def nextF {S E R : Type} (step : S → Option (S ⊕ E)) (K : E → Option R) (n : Nat) : S ⊕ E → Option R
  | .inl s' => (loopN step n s').bind K
  | .inr e => K e

/-! what a function says -/
theorem e_bind {A B R : Type} {g : Option A} {K : A → Option B} {J : B → Option R} {r : R} (h : (g.bind K).bind J = some r) : ∃ y, g = some y ∧ (K y).bind J = some r := by
  cases g with
  | none => cases h
  | some y => exact ⟨y, rfl, h⟩
theorem e_bif {B R : Type} {b : Bool} {x y : Option B} {J : B → Option R} {r : R} (h : (bif b then x else y).bind J = some r) : (b = true ∧ x.bind J = some r) ∨ (b = false ∧ y.bind J = some r) := by
  cases b with
  | true => exact .inl ⟨rfl, h⟩
  | false => exact .inr ⟨rfl, h⟩
theorem e_assoc {A B R : Type} {g : Option A} {K : A → Option B} {J : B → Option R} {r : R} (h : (g.bind K).bind J = some r) : g.bind (fun a => (K a).bind J) = some r := by
  cases g with
  | none => cases h
  | some y => exact h

def endW (P : Program) (fn : Func) (r : V) (e : AX) (tm : TM) (st : ST) (nx : Nat) : Prop := match e with
  | .exit _ => False
  | _ => (resR P tm fn.results.toList []).go st fun r' _ => LeV r' r

theorem soundW_of_awp {P : Program} {C : FuncId → Option Con} (hC : CtxOK P C) (hmix : P.follows .mixedOrders = true) {f : FuncId} {fn : Func} {c : Code} (hf : P.funcs[f]? = some fn) (hb : fn.body = some c) {con : Con}
    (h : ∀ x, con.ok x → (con.enc x).length ≤ fn.ntmps ∧ awp P C fn.ntmps 0 c (fun e tm st nx => match e with
      | .exit _ => False
      | _ => (resR P tm fn.results.toList []).go st fun r _ => LeV r (con.res x)) (startT (con.enc x)) [] 0) : SoundV P f con := by
  intro x F w vs hF hv hok
  obtain ⟨hlen, hawp⟩ := h x hok
  generalize havs : con.enc x = avs at hlen hawp hv
  have hl := RCs_length hv
  refine callsIn_wide.1 (callsIn_of_wp (n := 0) hf hb trivial ?_)
  have hR : Rel (fun g => w.heap.size ≤ g) w F (fun _ => none) [] (fun b => 0 ≤ b) F (fun _ => none) fn.ntmps (startT avs) [] { tmps := vs.toArray ++ Array.replicate (fn.ntmps - vs.toArray.size) undef, defers := [] } w := by
    refine { htm := fun i => ?_, hsz := by simp; omega, hde := rfl, hst := fun b x hx => by simp at hx, inj := fun b b' g c c' _ _ hm => (by cases hm), fresh := fun b _ => ⟨rfl, rfl⟩, pin := fun b y e => (by cases e), keep := Keeps.refl _ _, f0 := fun _ _ e => e, f1 := fun _ _ e => .inl e, f2 := hF, mlt := fun b g c hm => (by cases hm), below := Own.refl _ _, hb := fun _ e => e }
    have e : look (startT avs) i = avs[i]? := by
      unfold startT
      rw [List.range_eq_range', look_start avs 0 i]
      simp
    rw [e]
    cases hi : avs[i]? with
    | none => exact trivial
    | some c =>
      have hil : i < avs.length := (List.getElem?_eq_some_iff.1 hi).1
      have hx : vs[i]? = some (vs[i]'(by omega)) := List.getElem?_eq_getElem (by omega)
      have := ((RCs_iff.1 hv).2 i c _ hi hx).1
      simp only [Option.getD_some]
      have e2 : (vs.toArray ++ Array.replicate (fn.ntmps - vs.toArray.size) undef).getD i undef = vs[i]'(by omega) := by
        rw [Array.getD_eq_getD_getElem?, Array.getElem?_append_left (by simp; omega)]
        simp [hx]
      rw [e2]
      exact RV.of_RC this
  refine awp_sound (pins := 0) hC wide_wide hmix (fun b y e => by cases e) c _ _ F _ _ _ 0 _ w hR hawp ?_
  have fin : ∀ (a' : Act) (w' : World) (F' : FZ) (m' : MP) (tm' : TM) (st' : ST) (nx' : Nat), Rel (fun g => w.heap.size ≤ g) w F (fun _ => none) [] (fun b => nx' ≤ b) F' m' fn.ntmps tm' st' a' w' → (resR P tm' fn.results.toList []).go st' (fun r _ => LeV r (con.res x)) →
      a'.defers = [] ∧ ∃ v, (results fn a'.tmps).run P w' = .ok v w' ∧ ∃ v_1 F', Ending.returned v = Ending.returned v_1 ∧ Below w.heap.size w w' ∧ (∀ g j, F g j → F' g j) ∧ (∀ g j, F' g j → F g j ∨ w.heap.size ≤ g) ∧ (∀ g j, F' g j → g < w'.heap.size) ∧ RC F' w'.heap (con.res x) v_1 := by
    intro a' w' F' m' tm' st' nx' hR' hg
    obtain ⟨F1, st1, vs1, c1, r1, r2, r3, r4⟩ := resR_sound fn.results.toList [] [] F' st' hR' hg rfl (by simp)
    exact ⟨hR'.hde, _, results_eq fn a'.tmps w' vs1 r2, _, F1, rfl, r1.below.below, r1.f0, r1.f1, r1.f2, r4.le _ _ _ r3⟩
  intro e a' w' hpo
  cases e with
  | normal => obtain ⟨F', m', tm', st', nx', hR', hg⟩ := hpo; exact fin a' w' F' m' tm' st' nx' hR' hg
  | ret => obtain ⟨F', m', tm', st', nx', hR', hg⟩ := hpo; exact fin a' w' F' m' tm' st' nx' hR' hg
  | exit id => obtain ⟨F', m', tm', st', nx', hR', hg⟩ := hpo; exact hg.elim
  | goto l => exact hpo.elim
  | panic c => exact hpo.elim
  | outgrown => exact hpo.elim

/-- What is asked of a list that a function makes. -/
def endR (fn : Func) (ty : TypeId) (size : Nat) (r : V) (e : AX) (tm : TM) (st : ST) (nx : Nat) : Prop := match e with
  | .exit _ => False
  | _ => match fn.results.toList with
    | [.tmp t] => (∃ b n cs, (look tm t).getD .top = .osl b n ∧ look st b = some (.row ty size cs 0) ∧ n * size = cs.length ∧ r = .sl cs n) ∨ ((look tm t).getD .top = .v (.slice none 0 0) ∧ r = .sl [] 0)
    | _ => False

theorem fresh_end {O : Nat → Prop} {w0 : World} {F0 : FZ} {M0 : MP} {D : List Deferred} {U : Nat → Prop} {F : FZ} {m : MP} {sz : Nat} {tm : TM} {st : ST} {a : Act} {w : World} (h : Rel O w0 F0 M0 D U F m sz tm st a w) {k : Nat} (hO : ∀ g, O g → k ≤ g)
    {c : V} {x : Value} (hx : RV m F w.heap c x) {ty : TypeId} {size n : Nat} {cs : List V}
    (he : (∃ b n' cs', c = .osl b n' ∧ look st b = some (.row ty size cs' 0) ∧ n' * size = cs'.length ∧ V.sl cs n = .sl cs' n') ∨ (c = .v (.slice none 0 0) ∧ V.sl cs n = .sl [] 0)) : FreshV F k w.heap ty size cs n x := by
  rcases he with ⟨b, n', cs', rfl, hl, hn, hr⟩ | ⟨rfl, hr⟩
  · cases hr
    rcases hx with ⟨g, cap, hm, hnc, rfl⟩ | ⟨rfl, rfl⟩
    · obtain ⟨g', cap', cur, h1, h2, h3, h4, h5, h6, h7, h8, h9, h10⟩ := RBx.real (h.hst b _ hl) hm
      rw [hm] at h1; cases h1
      exact .inl ⟨g, cap, cur, hO _ h2, rfl, hnc, h4, h.mlt _ _ _ hm, h3, h5, h6, h7, fun j hj => absurd (h8 j hj) (Nat.not_lt_zero _)⟩
    · exact .inr ⟨rfl, rfl, List.eq_nil_of_length_eq_zero (by rw [← hn]; exact Nat.zero_mul _)⟩
  · cases hr
    have hx : x = .slice none 0 0 := hx
    exact .inr ⟨hx, rfl, rfl⟩

theorem soundF_of_awp {P : Program} {C : FuncId → Option Con} (hC : CtxOK P C) (hmix : P.follows .mixedOrders = true) {f : FuncId} {fn : Func} {c : Code} (hf : P.funcs[f]? = some fn) (hb : fn.body = some c) {con : Con} {ty : TypeId} {size : Nat}
    (h : ∀ x, con.ok x → (con.enc x).length ≤ fn.ntmps ∧ awp P C fn.ntmps 0 c (endR fn ty size (con.res x)) (startT (con.enc x)) [] 0) : SoundF P f con ty size := by
  intro x F w vs cs n hF hv hok hres
  obtain ⟨hlen, hawp⟩ := h x hok
  rw [hres] at hawp
  generalize havs : con.enc x = avs at hlen hawp hv
  have hl := RCs_length hv
  refine callsIn_wide.1 (callsIn_of_wp (n := 0) hf hb trivial ?_)
  have hR : Rel (fun g => w.heap.size ≤ g) w F (fun _ => none) [] (fun b => 0 ≤ b) F (fun _ => none) fn.ntmps (startT avs) [] { tmps := vs.toArray ++ Array.replicate (fn.ntmps - vs.toArray.size) undef, defers := [] } w := by
    refine { htm := fun i => ?_, hsz := by simp; omega, hde := rfl, hst := fun b x hx => by simp at hx, inj := fun b b' g c c' _ _ hm => (by cases hm), fresh := fun b _ => ⟨rfl, rfl⟩, pin := fun b y e => (by cases e), keep := Keeps.refl _ _, f0 := fun _ _ e => e, f1 := fun _ _ e => .inl e, f2 := hF, mlt := fun b g c hm => (by cases hm), below := Own.refl _ _, hb := fun _ e => e }
    have e : look (startT avs) i = avs[i]? := by
      unfold startT
      rw [List.range_eq_range', look_start avs 0 i]
      simp
    rw [e]
    cases hi : avs[i]? with
    | none => exact trivial
    | some c =>
      have hil : i < avs.length := (List.getElem?_eq_some_iff.1 hi).1
      have hx : vs[i]? = some (vs[i]'(by omega)) := List.getElem?_eq_getElem (by omega)
      have := ((RCs_iff.1 hv).2 i c _ hi hx).1
      simp only [Option.getD_some]
      have e2 : (vs.toArray ++ Array.replicate (fn.ntmps - vs.toArray.size) undef).getD i undef = vs[i]'(by omega) := by
        rw [Array.getD_eq_getD_getElem?, Array.getElem?_append_left (by simp; omega)]
        simp [hx]
      rw [e2]
      exact RV.of_RC this
  refine awp_sound (pins := 0) hC wide_wide hmix (fun b y e => by cases e) c _ _ F _ _ _ 0 _ w hR hawp ?_
  have fin : ∀ (a' : Act) (w' : World) (F' : FZ) (m' : MP) (tm' : TM) (st' : ST) (nx' : Nat), Rel (fun g => w.heap.size ≤ g) w F (fun _ => none) [] (fun b => nx' ≤ b) F' m' fn.ntmps tm' st' a' w' →
      (match fn.results.toList with
        | [.tmp t] => (∃ b n' cs', (look tm' t).getD .top = .osl b n' ∧ look st' b = some (.row ty size cs' 0) ∧ n' * size = cs'.length ∧ V.sl cs n = .sl cs' n') ∨ ((look tm' t).getD .top = .v (.slice none 0 0) ∧ V.sl cs n = .sl [] 0)
        | _ => False) →
      a'.defers = [] ∧ ∃ v, (results fn a'.tmps).run P w' = .ok v w' ∧ ∃ v_1 F', Ending.returned v = Ending.returned v_1 ∧ Below w.heap.size w w' ∧ (∀ g j, F g j → F' g j) ∧ (∀ g j, F' g j → F g j ∨ w.heap.size ≤ g) ∧ (∀ g j, F' g j → g < w'.heap.size) ∧ FreshV F' w.heap.size w'.heap ty size cs n v_1 := by
    intro a' w' F' m' tm' st' nx' hR' hg
    split at hg
    · next t hres =>
      have hr : fn.results = #[.tmp t] := by cases hh : fn.results; rw [hh] at hres; simp at hres; simp [hres]
      refine ⟨hR'.hde, a'.tmps.getD t undef, by simp [results, hr, Array.mapM_eq_mapM_toList], _, F', rfl, hR'.below.below, hR'.f0, hR'.f1, hR'.f2, ?_⟩
      exact fresh_end hR' (fun g e => e) (hR'.htm t) hg
    · exact hg.elim
  intro e a' w' hpo
  cases e with
  | normal => obtain ⟨F', m', tm', st', nx', hR', hg⟩ := hpo; exact fin a' w' F' m' tm' st' nx' hR' hg
  | ret => obtain ⟨F', m', tm', st', nx', hR', hg⟩ := hpo; exact fin a' w' F' m' tm' st' nx' hR' hg
  | exit id => obtain ⟨F', m', tm', st', nx', hR', hg⟩ := hpo; exact hg.elim
  | goto l => exact hpo.elim
  | panic c => exact hpo.elim
  | outgrown => exact hpo.elim

/-- A contract by a function that makes a list. -/
def conR {α β : Type} (F : α → Option β) (enc : α → List V) (er : β → V) (ty : TypeId) (size : Nat) : Con := { α := α × β, enc := fun x => enc x.1, ok := fun x => F x.1 = some x.2, res := fun x => er x.2, frs := .fresh ty size }

/-- The same, where the arguments are lent. -/
def conRL {α β : Type} (F : α → Option β) (enc : α → List V) (er : β → V) (ty : TypeId) (size : Nat) : Con := { α := α × β, enc := fun x => enc x.1, ok := fun x => F x.1 = some x.2, res := fun x => er x.2, frs := .lendF ty size }
def conL' {α β : Type} (F : α → Option β) (enc : α → List V) (er : β → V) : Con := { α := α × β, enc := fun x => enc x.1, ok := fun x => F x.1 = some x.2, res := fun x => er x.2, frs := .lend }

/-- Values that lead nowhere. -/
def isFl : V → Bool
  | .v _ => true
  | _ => false
theorem flat_cells {F : FZ} {H : Array Obj} {one : Bool} {F2 : FZ} {H2 : Array Obj} : ∀ {cs : List V} {xs : List Value}, cs.all isFl = true → RCs F H one cs xs → RCs F2 H2 one cs xs
  | [], [], _, _ => by simp [RCs]
  | c :: cs, x :: xs, h, hr => by
    simp only [List.all_cons, Bool.and_eq_true] at h
    simp only [RCs] at hr ⊢
    refine ⟨⟨?_, hr.1.2⟩, flat_cells h.2 hr.2⟩
    cases c with
    | v y => exact hr.1.1
    | _ => exact absurd h.1 (by simp [isFl])
  | [], _ :: _, _, hr => by simp [RCs] at hr
  | _ :: _, [], _, hr => by simp [RCs] at hr
theorem flat_recs {α : Type} {enc : α → List V} (h : ∀ a, (enc a).all isFl = true) (l : List α) : (recs enc l).all isFl = true := by
  induction l with
  | nil => rfl
  | cons a l ih => rw [show recs enc (a :: l) = enc a ++ recs enc l from rfl, List.all_append, h, ih]; rfl
theorem has_lendF {P : Program} {f : FuncId} {α β : Type} {F : α → Option β} {enc : α → List V} {er : β → V} {ty : TypeId} {size : Nat} (h : Has P f (conR F enc er ty size)) (hf : ∀ r cs n, er r = .sl cs n → cs.all isFl = true) : Has P f (conRL F enc er ty size) :=
  ⟨⟨h.1, fun x cs n F H xs F2 H2 hr hc => flat_cells (hf _ _ _ hr) hc⟩, h.2⟩

/-- A contract by a function. -/
def conF {α β : Type} (F : α → Option β) (enc : α → List V) (er : β → V) : Con := { α := α × β, enc := fun x => enc x.1, ok := fun x => F x.1 = some x.2, res := fun x => er x.2 }

/-- The same, where something more is asked. -/
def conK {α β : Type} (F : α → Option β) (enc : α → List V) (ok : α → Prop) (er : β → V) : Con := { α := α × β, enc := fun x => enc x.1, ok := fun x => F x.1 = some x.2 ∧ ok x.1, res := fun x => er x.2 }

/-- A closure that does what p says. -/
def Callable (C : FuncId → Option Con) (g : FuncId) (caps : List V) {A B : Type} (enc : A → List V) (er : B → V) (p : A → Option B) : Prop :=
  caps.all plain = true ∧ ∃ c, C g = some c ∧ c.eff = none ∧ c.frs = .keep ∧ ∀ a y, p a = some y → ∃ z : c.α, c.enc z = enc a ++ caps ∧ c.ok z ∧ c.res z = er y
theorem callable_conF {C : FuncId → Option Con} {g : FuncId} {caps : List V} {A B X : Type} {enc : A → List V} {er : B → V} {F : X → Option B} {e0 : X → List V} {x : A → X} (h0 : caps.all plain = true) (h1 : C g = some (conF F e0 er)) (h2 : ∀ a, e0 (x a) = enc a ++ caps) : Callable C g caps enc er (fun a => F (x a)) :=
  ⟨h0, _, h1, rfl, rfl, fun a y h => ⟨(x a, y), h2 a, h, rfl⟩⟩

theorem callable_conK {C : FuncId → Option Con} {g : FuncId} {caps : List V} {A B X : Type} {enc : A → List V} {er : B → V} {F : X → Option B} {e0 : X → List V} {ok : X → Prop} {x : A → X} (h0 : caps.all plain = true) (h1 : C g = some (conK F e0 ok er)) (h2 : ∀ a, e0 (x a) = enc a ++ caps) (h3 : ∀ a, ok (x a)) : Callable C g caps enc er (fun a => F (x a)) :=
  ⟨h0, _, h1, rfl, rfl, fun a y h => ⟨(x a, y), h2 a, ⟨h, h3 a⟩, rfl⟩⟩

/-- Contracts at hand, upon others. -/
def ext (C : FuncId → Option Con) : List (FuncId × Con) → FuncId → Option Con
  | [], f => C f
  | (g, c) :: l, f => match Nat.beq g f with
    | true => some c
    | false => ext C l f
theorem ext_nil {P : Program} {C : FuncId → Option Con} (h : CtxOK P C) : CtxOK P (ext C []) := h
theorem ext_cons {P : Program} {C : FuncId → Option Con} {g : FuncId} {c : Con} {l : List (FuncId × Con)} (h : Has P g c) (k : CtxOK P (ext C l)) : CtxOK P (ext C ((g, c) :: l)) := by
  intro f c' hf
  simp only [ext] at hf
  split at hf
  · next hb => have := Nat.eq_of_beq_eq_true hb; subst this; cases hf; exact h
  · exact k f c' hf

section
variable {P : Program} {C : FuncId → Option Con} {sz pins nx id : Nat} {tm : TM} {st : ST} {rs ws : List Nat}

theorem hasK (hC : CtxOK P C) (hmix : P.follows .mixedOrders = true) {f : FuncId} {fn : Func} {c : Code} (hf : P.funcs[f]? = some fn) (hb : fn.body = some c)
    (hn : (fn.name == "runtime.NumGoroutine") = false) {α β : Type} {F : α → Option β} {enc : α → List V} {ok : α → Prop} {er : β → V}
    (h : ∀ x r, ok x → (F x).bind some = some r → (enc x).length ≤ fn.ntmps ∧ awp P C fn.ntmps 0 c (endW P fn (er r)) (startT (enc x)) [] 0) : Has P f (conK F enc ok er) :=
  ⟨soundW_of_awp (con := conK F enc ok er) hC hmix hf hb fun x hx => h x.1 x.2 hx.2 (by show (F x.1).bind some = _; rw [show F x.1 = some x.2 from hx.1]; rfl), enters_ok hf hn (by simp [hb])⟩
theorem g_hcall {α β : Type} {F : α → Option β} {enc : α → List V} {ok : α → Prop} {er : β → V} {avs : List V} {K : V → ST → Prop} {x : α} {y : β} (hy : F x = some y) (ha : LeVs avs (enc x)) (hok : ok x)
    (h : (RM.retF (er y)).go st K) : (RM.exi (conK F enc ok er).α (fun z => LeVs avs ((conK F enc ok er).enc z) ∧ (conK F enc ok er).ok z) (fun z => RM.retF ((conK F enc ok er).res z))).go st K := ⟨(x, y), ⟨ha, hy, hok⟩, h⟩
theorem g_hcallT {α β : Type} {F : α → Option β} {enc : α → List V} {ok : α → Prop} {er : β → V} {avs : List V} {K : V → ST → List Nat → List Nat → Prop} {x : α} {y : β} (hy : F x = some y) (ha : LeVs avs (enc x)) (hok : ok x)
    (h : (RM.retF (er y)).goT st rs ws K) : (RM.exi (conK F enc ok er).α (fun z => LeVs avs ((conK F enc ok er).enc z) ∧ (conK F enc ok er).ok z) (fun z => RM.retF ((conK F enc ok er).res z))).goT st rs ws K := ⟨(x, y), ⟨ha, hy, hok⟩, h⟩
theorem map_plain {d : Nat} : ∀ (l : List V) (k : List V → RM), l.all plain = true → mapRM (fz (d + 1)) l k = k l
  | [], k, _ => rfl
  | c :: l, k, h => by
    simp only [List.all_cons, Bool.and_eq_true] at h
    have e : ∀ k, fz (d + 1) c k = k c := by
      intro k
      have h1 := h.1
      clear h
      cases c <;> first | rfl | (simp [plain] at h1)
    rw [mapRM, e, map_plain l _ h.2]
theorem go_map {d : Nat} {caps l : List V} {k : List V → RM} {K : V → ST → Prop} (h : caps.all plain = true) (hl : l = caps) (hk : (k caps).go st K) : (mapRM (fz (d + 1)) l k).go st K := by
  subst hl
  rw [map_plain l k h]; exact hk
theorem goT_map {d : Nat} {caps l : List V} {k : List V → RM} {K : V → ST → List Nat → List Nat → Prop} (h : caps.all plain = true) (hl : l = caps) (hk : (k caps).goT st rs ws K) : (mapRM (fz (d + 1)) l k).goT st rs ws K := by
  subst hl
  rw [map_plain l k h]; exact hk

theorem hasF (hC : CtxOK P C) (hmix : P.follows .mixedOrders = true) {f : FuncId} {fn : Func} {c : Code} (hf : P.funcs[f]? = some fn) (hb : fn.body = some c)
    (hn : (fn.name == "runtime.NumGoroutine") = false) {α β : Type} {F : α → Option β} {enc : α → List V} {er : β → V}
    (h : ∀ x r, (F x).bind some = some r → (enc x).length ≤ fn.ntmps ∧ awp P C fn.ntmps 0 c (endW P fn (er r)) (startT (enc x)) [] 0) : Has P f (conF F enc er) :=
  ⟨soundW_of_awp (con := conF F enc er) hC hmix hf hb fun x hx => h x.1 x.2 (by show (F x.1).bind some = _; rw [show F x.1 = some x.2 from hx]; rfl), enters_ok hf hn (by simp [hb])⟩

theorem hasFR (hC : CtxOK P C) (hmix : P.follows .mixedOrders = true) {f : FuncId} {fn : Func} {c : Code} (hf : P.funcs[f]? = some fn) (hb : fn.body = some c)
    (hn : (fn.name == "runtime.NumGoroutine") = false) {α β : Type} {F : α → Option β} {enc : α → List V} {er : β → V} {ty : TypeId} {size : Nat}
    (h : ∀ x r, (F x).bind some = some r → (enc x).length ≤ fn.ntmps ∧ awp P C fn.ntmps 0 c (endR fn ty size (er r)) (startT (enc x)) [] 0) : Has P f (conR F enc er ty size) :=
  ⟨soundF_of_awp (con := conR F enc er ty size) hC hmix hf hb fun x hx => h x.1 x.2 (by show (F x.1).bind some = _; rw [show F x.1 = some x.2 from hx]; rfl), enters_ok hf hn (by simp [hb])⟩

theorem g_callR {α β : Type} {F : α → Option β} {enc : α → List V} {er : β → V} {ty : TypeId} {size : Nat} {avs : List V} {K : V → ST → Prop} {x : α} {y : β} (hy : F x = some y) (ha : LeVs avs (enc x))
    (h : (freshR id ty size (er y)).go st K) : (RM.exi (conR F enc er ty size).α (fun z => LeVs avs ((conR F enc er ty size).enc z) ∧ (conR F enc er ty size).ok z) (fun z => freshR id ty size ((conR F enc er ty size).res z))).go st K := ⟨(x, y), ⟨ha, hy⟩, h⟩

theorem g_callRT {α β : Type} {F : α → Option β} {enc : α → List V} {er : β → V} {ty : TypeId} {size : Nat} {avs : List V} {K : V → ST → List Nat → List Nat → Prop} {x : α} {y : β} (hy : F x = some y) (ha : LeVs avs (enc x))
    (h : (freshR id ty size (er y)).goT st rs ws K) : (RM.exi (conR F enc er ty size).α (fun z => LeVs avs ((conR F enc er ty size).enc z) ∧ (conR F enc er ty size).ok z) (fun z => freshR id ty size ((conR F enc er ty size).res z))).goT st rs ws K := ⟨(x, y), ⟨ha, hy⟩, h⟩

theorem has_lend {f : FuncId} {α β : Type} {F : α → Option β} {enc : α → List V} {er : β → V} (h : Has P f (conF F enc er)) (hf : ∀ r F H v F2 H2, RC F H (er r) v → RC F2 H2 (er r) v) : Has P f (conL' F enc er) :=
  ⟨⟨h.1, fun x F H v F2 H2 hc => hf _ _ _ _ _ _ hc⟩, h.2⟩
theorem g_callL {α β : Type} {F : α → Option β} {enc : α → List V} {er : β → V} {avs : List V} {K : V → ST → Prop} {x : α} {y : β} (hy : F x = some y) (ha : LeVs avs (enc x))
    (h : (RM.retF (er y)).go st K) : (RM.exi (conL' F enc er).α (fun z => LeVs avs ((conL' F enc er).enc z) ∧ (conL' F enc er).ok z) (fun z => RM.retF ((conL' F enc er).res z))).go st K := ⟨(x, y), ⟨ha, hy⟩, h⟩
theorem g_callLT {α β : Type} {F : α → Option β} {enc : α → List V} {er : β → V} {avs : List V} {K : V → ST → List Nat → List Nat → Prop} {x : α} {y : β} (hy : F x = some y) (ha : LeVs avs (enc x))
    (h : (RM.retF (er y)).goT st rs ws K) : (RM.exi (conL' F enc er).α (fun z => LeVs avs ((conL' F enc er).enc z) ∧ (conL' F enc er).ok z) (fun z => RM.retF ((conL' F enc er).res z))).goT st rs ws K := ⟨(x, y), ⟨ha, hy⟩, h⟩
theorem g_callRL {α β : Type} {F : α → Option β} {enc : α → List V} {er : β → V} {ty : TypeId} {size : Nat} {avs : List V} {K : V → ST → Prop} {x : α} {y : β} (hy : F x = some y) (ha : LeVs avs (enc x))
    (h : (freshR id ty size (er y)).go st K) : (RM.exi (conRL F enc er ty size).α (fun z => LeVs avs ((conRL F enc er ty size).enc z) ∧ (conRL F enc er ty size).ok z) (fun z => freshR id ty size ((conRL F enc er ty size).res z))).go st K := ⟨(x, y), ⟨ha, hy⟩, h⟩

theorem g_callRLT {α β : Type} {F : α → Option β} {enc : α → List V} {er : β → V} {ty : TypeId} {size : Nat} {avs : List V} {K : V → ST → List Nat → List Nat → Prop} {x : α} {y : β} (hy : F x = some y) (ha : LeVs avs (enc x))
    (h : (freshR id ty size (er y)).goT st rs ws K) : (RM.exi (conRL F enc er ty size).α (fun z => LeVs avs ((conRL F enc er ty size).enc z) ∧ (conRL F enc er ty size).ok z) (fun z => freshR id ty size ((conRL F enc er ty size).res z))).goT st rs ws K := ⟨(x, y), ⟨ha, hy⟩, h⟩

theorem g_call {α β : Type} {F : α → Option β} {enc : α → List V} {er : β → V} {avs : List V} {K : V → ST → Prop} {x : α} {y : β} (hy : F x = some y) (ha : LeVs avs (enc x))
    (h : (RM.retF (er y)).go st K) : (RM.exi (conF F enc er).α (fun z => LeVs avs ((conF F enc er).enc z) ∧ (conF F enc er).ok z) (fun z => RM.retF ((conF F enc er).res z))).go st K := ⟨(x, y), ⟨ha, hy⟩, h⟩
theorem g_callT {α β : Type} {F : α → Option β} {enc : α → List V} {er : β → V} {avs : List V} {K : V → ST → List Nat → List Nat → Prop} {x : α} {y : β} (hy : F x = some y) (ha : LeVs avs (enc x))
    (h : (RM.retF (er y)).goT st rs ws K) : (RM.exi (conF F enc er).α (fun z => LeVs avs ((conF F enc er).enc z) ∧ (conF F enc er).ok z) (fun z => RM.retF ((conF F enc er).res z))).goT st rs ws K := ⟨(x, y), ⟨ha, hy⟩, h⟩

/-! tests whose answer is known -/
theorem ops_takeH {all : List Oper} {o : Oper} {os : List Oper} {K : TM → ST → Prop} {j d : Nat} {want b : Bool} (hb : b = want) (hd : okDst sz o.dst = true) (hg : o.guard = some (j, want)) (hj : (all[j]?).bind (·.dst) = some d) (hl : (look tm d).getD .top = .v (.bool b))
    (h : (opR P C id (ev tm) o.op).go st fun v st' => evOps P C sz all os (id + 1) (putT tm o.dst v) st' K) : evOps P C sz all (o :: os) id tm st K := ops_take hd hg hj (by rw [hl, hb]) h
theorem ops_skipH {all : List Oper} {o : Oper} {os : List Oper} {K : TM → ST → Prop} {j d : Nat} {want b : Bool} (hb : b = !want) (hd : okDst sz o.dst = true) (hg : o.guard = some (j, want)) (hj : (all[j]?).bind (·.dst) = some d) (hl : (look tm d).getD .top = .v (.bool b))
    (h : evOps P C sz all os (id + 1) (putT tm o.dst vU) st K) : evOps P C sz all (o :: os) id tm st K := ops_skip hd hg hj (by rw [hl, hb]) h
theorem st_condTH {x : Operand} {a b : Code} {p : Bool} {Q : AX → TM → ST → Nat → Prop} (hp : p = true) (hc : ev tm x = .v (.bool p)) (h1 : awp P C sz pins a Q tm st nx) : awp P C sz pins (.cond x a b) Q tm st nx := st_condT (by rw [hc, hp]) h1
theorem st_condFH {x : Operand} {a b : Code} {p : Bool} {Q : AX → TM → ST → Nat → Prop} (hp : p = false) (hc : ev tm x = .v (.bool p)) (h1 : awp P C sz pins b Q tm st nx) : awp P C sz pins (.cond x a b) Q tm st nx := st_condF (by rw [hc, hp]) h1
variable {ops : Array Oper} {o : Oper} {os : List Oper} {i : Nat} {prev : List (Nat × Oper × List Nat × List Nat)}
theorem d_takeH {K : TM → ST → Prop} {j d : Nat} {want b : Bool} (hb : b = want) (hd : okDst sz o.dst = true) (hg : o.guard = some (j, want)) (hj : (ops.toList[j]?).bind (·.dst) = some d) (hl : (look tm d).getD .top = .v (.bool b))
    (h : (opR P C (nx + i) (ev tm) o.op).goT st [] [] (dK P C sz ops nx o os i tm prev K)) : evOpsD P C sz ops nx (o :: os) i tm st prev K := d_take hd hg hj (by rw [hl, hb]) h
theorem d_skipH {K : TM → ST → Prop} {j d : Nat} {want b : Bool} (hb : b = !want) (hd : okDst sz o.dst = true) (hg : o.guard = some (j, want)) (hj : (ops.toList[j]?).bind (·.dst) = some d) (hl : (look tm d).getD .top = .v (.bool b)) (hi : indepB ops o [] [] prev = true)
    (h : evOpsD P C sz ops nx os (i + 1) (putT tm o.dst vU) st ((i, o, [], []) :: prev) K) : evOpsD P C sz ops nx (o :: os) i tm st prev K := d_skip hd hg hj (by rw [hl, hb]) hi h

/-! loops -/
/-- A loop: its rounds over data, and the states at its head. -/
structure LoopD (S E Γ : Type) where
  step : S → Option (S ⊕ E)
  at_ : S → Γ → LS

section loops
variable {S E R Γ : Type}
abbrev LoopA (step : S → Option (S ⊕ E)) (K : E → Option R) (r : R) (Γ : Type) := { x : Nat × S × Γ // (loopN step x.1 x.2.1).bind K = some r }
theorem st_loopF {L : LoopD S E Γ} {K : E → Option R} {r : R} {s0 : S} {c : Code} {Q : AX → TM → ST → Nat → Prop} (hF : (loopC L.step s0).bind K = some r) (g0 : Γ) (ren : List (Nat × Nat)) (hs : Sub pins ren (L.at_ s0 g0).tm (L.at_ s0 g0).st (L.at_ s0 g0).nx tm st)
    (h : ∀ (n : Nat) (s : S) (g : Γ) (x : LoopA L.step K r Γ), x.1.1 = n + 1 → (L.step s).bind (nextF L.step K n) = some r → awp P C sz pins c (loopK pins (fun y : LoopA L.step K r Γ => L.at_ y.1.2.1 y.1.2.2) (fun y => y.1.1) x Q) (L.at_ s g).tm (L.at_ s g).st (L.at_ s g).nx) : awp P C sz pins (.loop c) Q tm st nx := by
  obtain ⟨e, he, hk⟩ : ∃ e, loopC L.step s0 = some e ∧ K e = some r := by
    cases hl : loopC L.step s0 with
    | none => rw [hl] at hF; cases hF
    | some e => rw [hl] at hF; exact ⟨e, rfl, hF⟩
  obtain ⟨n, hn⟩ := loopC_ex he
  refine st_loop (α := LoopA L.step K r Γ) (mk := fun y => L.at_ y.1.2.1 y.1.2.2) (μ := fun y => y.1.1) ⟨⟨(n, s0, g0), by rw [hn]; exact hk⟩, ren, hs⟩ ?_
  rintro ⟨⟨n, s, g⟩, hx⟩
  cases n with
  | zero => cases hx
  | succ n =>
    refine h n s g ⟨(n + 1, s, g), hx⟩ rfl ?_
    simp only [loopN] at hx
    cases hs : L.step s with
    | none => rw [hs] at hx; cases hx
    | some o =>
      rw [hs] at hx
      cases o with
      | inl s' => exact hx
      | inr e => exact hx
theorem k_loopF {L : LoopD S E Γ} {K : E → Option R} {r : R} {x : LoopA L.step K r Γ} {n : Nat} {Q : AX → TM → ST → Nat → Prop} {s' : S} (hF : nextF L.step K n (.inl s') = some r) (hx : x.1.1 = n + 1) (g' : Γ) (ren : List (Nat × Nat))
    (hs : Sub pins ren (L.at_ s' g').tm (L.at_ s' g').st (L.at_ s' g').nx tm st) : loopK pins (fun y : LoopA L.step K r Γ => L.at_ y.1.2.1 y.1.2.2) (fun y => y.1.1) x Q .normal tm st nx :=
  k_loop (⟨(n, s', g'), hF⟩ : LoopA L.step K r Γ) ren hs (by show n < x.1.1; omega)
end loops
end

/-! lists -/
/-- An element of a list by its number. -/
def idx? {α : Type} (l : List α) (j : Int) : Option α := if 0 ≤ j then l[j.toNat]? else none
theorem idx?_lt {α : Type} {l : List α} {j : Int} {x : α} (h : idx? l j = some x) : 0 ≤ j ∧ j < l.length ∧ ∃ hj : j.toNat < l.length, l[j.toNat] = x := by
  unfold idx? at h
  split at h
  · obtain ⟨hj, hx⟩ := List.getElem?_eq_some_iff.mp h
    exact ⟨by assumption, by omega, hj, hx⟩
  · cases h
theorem recs_at {α : Type} {enc : α → List V} {s : Nat} (he : ∀ a, (enc a).length = s) {l : List α} {j : Int} {x : α} (h : idx? l j = some x) : ∃ rest, (recs enc l).drop (j.toNat * s) = enc x ++ rest := by
  obtain ⟨_, _, hj, hx⟩ := idx?_lt h
  refine ⟨recs enc (l.drop (j.toNat + 1)), ?_⟩
  rw [recs_drop he, List.drop_eq_getElem_cons hj, hx]
  rfl

section
variable {st : ST} {rs ws : List Nat}
/-- The address of an element. -/
theorem o_ia {α : Type} {enc : α → List V} {s : Nat} {l : List α} {j : Int} {a : α} {d : Decidable (0 ≤ j ∧ j < (l.length : Int) ∧ l.length * s = (recs enc l).length ∧ 0 < s)} {K : V → ST → Prop} (h : idx? l j = some a) (he : ∀ a, (enc a).length = s) (hs : 0 < s)
    (hk : ∀ rest, (RM.ret (.fptr (enc a ++ rest))).go st K) : (@RM.dec (0 ≤ j ∧ j < (l.length : Int) ∧ l.length * s = (recs enc l).length ∧ 0 < s) (RM.ret (.fptr ((recs enc l).drop (j.toNat * s)))) d).go st K := by
  obtain ⟨h0, h1, _⟩ := idx?_lt h
  obtain ⟨rest, hr⟩ := recs_at he h
  refine ⟨⟨h0, h1, by rw [recs_length he], hs⟩, ?_⟩
  rw [hr]
  exact hk rest
theorem o_iaT {α : Type} {enc : α → List V} {s : Nat} {l : List α} {j : Int} {a : α} {d : Decidable (0 ≤ j ∧ j < (l.length : Int) ∧ l.length * s = (recs enc l).length ∧ 0 < s)} {K : V → ST → List Nat → List Nat → Prop} (h : idx? l j = some a) (he : ∀ a, (enc a).length = s) (hs : 0 < s)
    (hk : ∀ rest, (RM.ret (.fptr (enc a ++ rest))).goT st rs ws K) : (@RM.dec (0 ≤ j ∧ j < (l.length : Int) ∧ l.length * s = (recs enc l).length ∧ 0 < s) (RM.ret (.fptr ((recs enc l).drop (j.toNat * s)))) d).goT st rs ws K := by
  obtain ⟨h0, h1, _⟩ := idx?_lt h
  obtain ⟨rest, hr⟩ := recs_at he h
  refine ⟨⟨h0, h1, by rw [recs_length he], hs⟩, ?_⟩
  rw [hr]
  exact hk rest
end

/-- A divisor. -/
def nz? (b : Int) : Option Unit := if b ≠ 0 then some () else none
theorem nz_ne {b : Int} {u : Unit} (h : nz? b = some u) : b ≠ 0 := by
  unfold nz? at h
  split at h
  · assumption
  · cases h
/-- A part of a list. -/
def slc? {α : Type} (l : List α) (i j : Int) : Option (List α) := if 0 ≤ i ∧ i ≤ j ∧ j ≤ l.length then some ((l.drop i.toNat).take (j.toNat - i.toNat)) else none
theorem recs_take {α : Type} {enc : α → List V} {s : Nat} (he : ∀ a, (enc a).length = s) (l : List α) (k : Nat) : (recs enc l).take (k * s) = recs enc (l.take k) := by
  induction l generalizing k with
  | nil => simp [recs]
  | cons a l ih =>
    cases k with
    | zero => simp [recs]
    | succ k =>
      have e : (k + 1) * s = (enc a).length + k * s := by rw [he, Nat.add_mul]; omega
      rw [show recs enc (a :: l) = enc a ++ recs enc l from rfl, e, List.take_length_add_append, ih]
      rfl
section
variable {st : ST} {rs ws : List Nat}
theorem slc_eq {α : Type} {enc : α → List V} {s : Nat} {l m : List α} {i j : Int} (h : slc? l i j = some m) (he : ∀ a, (enc a).length = s) :
    (0 ≤ i ∧ i ≤ j ∧ j ≤ (l.length : Int) ∧ l.length * s = (recs enc l).length) ∧ ((recs enc l).drop (i.toNat * s)).take ((j.toNat - i.toNat) * s) = recs enc m ∧ j.toNat - i.toNat = m.length := by
  unfold slc? at h
  split at h
  · next hc =>
    cases h
    refine ⟨⟨hc.1, hc.2.1, hc.2.2, (recs_length he l).symm⟩, ?_, ?_⟩
    · rw [recs_drop he, recs_take he]
    · simp; omega
  · cases h
theorem o_slc {α : Type} {enc : α → List V} {s : Nat} {l m : List α} {i j : Int} {d : Decidable (0 ≤ i ∧ i ≤ j ∧ j ≤ (l.length : Int) ∧ l.length * s = (recs enc l).length)} {K : V → ST → Prop} (h : slc? l i j = some m) (he : ∀ a, (enc a).length = s)
    (hk : (RM.ret (.sl (recs enc m) m.length)).go st K) : (@RM.dec (0 ≤ i ∧ i ≤ j ∧ j ≤ (l.length : Int) ∧ l.length * s = (recs enc l).length) (.ret (.sl (((recs enc l).drop (i.toNat * s)).take ((j.toNat - i.toNat) * s)) (j.toNat - i.toNat))) d).go st K := by
  obtain ⟨h1, h2, h3⟩ := slc_eq h he
  rw [h2, h3]
  exact ⟨h1, hk⟩
theorem o_slcT {α : Type} {enc : α → List V} {s : Nat} {l m : List α} {i j : Int} {d : Decidable (0 ≤ i ∧ i ≤ j ∧ j ≤ (l.length : Int) ∧ l.length * s = (recs enc l).length)} {K : V → ST → List Nat → List Nat → Prop} (h : slc? l i j = some m) (he : ∀ a, (enc a).length = s)
    (hk : (RM.ret (.sl (recs enc m) m.length)).goT st rs ws K) : (@RM.dec (0 ≤ i ∧ i ≤ j ∧ j ≤ (l.length : Int) ∧ l.length * s = (recs enc l).length) (.ret (.sl (((recs enc l).drop (i.toNat * s)).take ((j.toNat - i.toNat) * s)) (j.toNat - i.toNat))) d).goT st rs ws K := by
  obtain ⟨h1, h2, h3⟩ := slc_eq h he
  rw [h2, h3]
  exact ⟨h1, hk⟩
end

/-! lists of the call's own -/
/-- A list, and another behind it; by bytes each. -/
def app? {α : Type} (l m : List α) (by_ : Nat) : Option (List α) := if (l.length + m.length) * by_ ≤ 140737488355328 ∧ 0 < by_ then some (l ++ m) else none
def appn? {α : Type} (m : List α) (by_ : Nat) : Option (List α) := if m.length * by_ ≤ 140737488355328 ∧ 0 < by_ ∧ 0 < m.length then some m else none
/-- A new list. -/
def mk? {α : Type} (z : α) (n : Int) (by_ : Nat) : Option (List α) := if 0 ≤ n ∧ n * by_ ≤ 281474976710656 ∧ n ≤ 140737488355328 then some (List.replicate n.toNat z) else none
/-- A list with another element. -/
def set? {α : Type} (l : List α) (j : Int) (x : α) : Option (List α) := if 0 ≤ j ∧ j < l.length then some (l.set j.toNat x) else none

theorem recs_append {α : Type} (enc : α → List V) (l m : List α) : recs enc l ++ recs enc m = recs enc (l ++ m) := by simp [recs]
theorem app_eq {α : Type} {enc : α → List V} {s : Nat} {l m r : List α} {n : Nat} (h : app? l m n = some r) (he : ∀ a, (enc a).length = s) :
    (l.length * s = (recs enc l).length ∧ l.length + m.length ≤ maxLen ∧ (l.length + m.length) * n ≤ 140737488355328) ∧ recs enc l ++ recs enc m = recs enc r ∧ l.length + m.length = r.length := by
  unfold app? at h
  split at h
  · next hc =>
    cases h
    refine ⟨⟨(recs_length he l).symm, ?_, hc.1⟩, recs_append enc l m, by simp⟩
    have h1 : l.length + m.length ≤ (l.length + m.length) * n := Nat.le_mul_of_pos_right _ hc.2
    have h2 : (140737488355328 : Nat) ≤ maxLen := by decide
    omega
  · cases h
theorem appn_eq {α : Type} {enc : α → List V} {s : Nat} {m r : List α} {n : Nat} (h : appn? m n = some r) (he : ∀ a, (enc a).length = s) :
    (m.length ≤ maxLen ∧ m.length * n ≤ 140737488355328 ∧ 0 < m.length) ∧ m = r := by
  unfold appn? at h
  split at h
  · next hc =>
    cases h
    refine ⟨⟨?_, hc.1, hc.2.2⟩, rfl⟩
    have h1 : m.length ≤ m.length * n := Nat.le_mul_of_pos_right _ hc.2.1
    have h2 : (140737488355328 : Nat) ≤ maxLen := by decide
    omega
  · cases h
theorem mk_eq {α : Type} {enc : α → List V} {s : Nat} {z : α} {n : Int} {k : Nat} {r : List α} (h : mk? z n k = some r) (hs : 0 < s) :
    (0 ≤ n ∧ n = n ∧ n * k ≤ 281474976710656 ∧ 0 < s ∧ n ≤ maxLen) ∧ (List.replicate n.toNat (enc z)).flatten = recs enc r ∧ n.toNat = r.length := by
  unfold mk? at h
  split at h
  · next hc =>
    cases h
    refine ⟨⟨hc.1, rfl, hc.2.1, hs, ?_⟩, recs_replicate z _, by simp⟩
    have h2 : (140737488355328 : Int) ≤ maxLen := by decide
    omega
  · cases h
theorem set_eq {α : Type} {enc : α → List V} {s o n : Nat} {l r : List α} {j : Int} {a b : α} {new : List V} (hi : idx? l j = some a) (h : set? l j b = some r) (he : ∀ a, (enc a).length = s) (ho : o + n ≤ s)
    (hn : new.length = n) (hb : (enc a).take o ++ new ++ (enc a).drop (o + n) = enc b) :
    (new.length = n ∧ j.toNat * s + o + n ≤ (recs enc l).length ∧ 0 ≤ j.toNat * s + o) ∧ (recs enc l).take (j.toNat * s + o) ++ new ++ (recs enc l).drop (j.toNat * s + o + n) = recs enc r := by
  obtain ⟨h0, h1, hj, hx⟩ := idx?_lt hi
  unfold set? at h
  rw [if_pos ⟨h0, h1⟩] at h
  cases h
  refine ⟨⟨hn, ?_, Nat.zero_le _⟩, ?_⟩
  · rw [recs_length he]
    have : (j.toNat + 1) * s ≤ l.length * s := Nat.mul_le_mul_right s hj
    rw [Nat.add_mul] at this
    omega
  · rw [← recs_set (s := s) he l j.toNat b hj, ← hb]
    obtain ⟨rest, hr⟩ := recs_at he hi
    have hla : (enc a).length = s := he a
    have hl : (recs enc l).length = l.length * s := recs_length he l
    have hle : j.toNat * s + s ≤ (recs enc l).length := by
      rw [hl]
      have : (j.toNat + 1) * s ≤ l.length * s := Nat.mul_le_mul_right s hj
      rw [Nat.add_mul] at this
      omega
    have e1 : (recs enc l).take (j.toNat * s + o) = (recs enc l).take (j.toNat * s) ++ (enc a).take o := by
      rw [List.take_add, hr, List.take_append_of_le_length (by omega)]
    have h3 : (recs enc l).drop (j.toNat * s + s) = rest := by
      rw [← List.drop_drop, hr, List.drop_append_of_le_length (by omega), ← hla, List.drop_length]
      rfl
    have e2 : (recs enc l).drop (j.toNat * s + o + n) = (enc a).drop (o + n) ++ (recs enc l).drop (j.toNat * s + s) := by
      rw [h3, show j.toNat * s + o + n = j.toNat * s + (o + n) by omega, ← List.drop_drop, hr, List.drop_append_of_le_length (by omega)]
    rw [e1, e2]
    simp [List.append_assoc]

section
variable {st : ST} {rs ws : List Nat}
theorem o_app {α : Type} {enc : α → List V} {s n : Nat} {l m r : List α} {b id : Nat} {e : TypeId} {p : Nat} {d : Decidable (l.length * s = (recs enc l).length ∧ l.length + m.length ≤ maxLen ∧ (l.length + m.length) * n ≤ 140737488355328)} {K : V → ST → Prop} (h : app? l m n = some r) (he : ∀ a, (enc a).length = s)
    (hk : (RM.ret (.osl id r.length)).go ((id, .row e s (recs enc r) p) :: (b, .dead) :: st) K) : (@RM.dec (l.length * s = (recs enc l).length ∧ l.length + m.length ≤ maxLen ∧ (l.length + m.length) * n ≤ 140737488355328) (.put b .dead (.put id (.row e s (recs enc l ++ recs enc m) p) (.ret (.osl id (l.length + m.length))))) d).go st K := by
  obtain ⟨h1, h2, h3⟩ := app_eq h he
  rw [← h2, ← h3] at hk
  exact ⟨h1, hk⟩
theorem o_appT {α : Type} {enc : α → List V} {s n : Nat} {l m r : List α} {b id : Nat} {e : TypeId} {p : Nat} {d : Decidable (l.length * s = (recs enc l).length ∧ l.length + m.length ≤ maxLen ∧ (l.length + m.length) * n ≤ 140737488355328)} {K : V → ST → List Nat → List Nat → Prop} (h : app? l m n = some r) (he : ∀ a, (enc a).length = s)
    (hk : (RM.ret (.osl id r.length)).goT ((id, .row e s (recs enc r) p) :: (b, .dead) :: st) rs (id :: b :: ws) K) : (@RM.dec (l.length * s = (recs enc l).length ∧ l.length + m.length ≤ maxLen ∧ (l.length + m.length) * n ≤ 140737488355328) (.put b .dead (.put id (.row e s (recs enc l ++ recs enc m) p) (.ret (.osl id (l.length + m.length))))) d).goT st rs ws K := by
  obtain ⟨h1, h2, h3⟩ := app_eq h he
  rw [← h2, ← h3] at hk
  exact ⟨h1, hk⟩
theorem o_appn {α : Type} {enc : α → List V} {s n : Nat} {m r : List α} {id : Nat} {e : TypeId} {d : Decidable (m.length ≤ maxLen ∧ m.length * n ≤ 140737488355328 ∧ 0 < m.length)} {K : V → ST → Prop} (h : appn? m n = some r) (he : ∀ a, (enc a).length = s)
    (hk : (RM.ret (.osl id r.length)).go ((id, .row e s (recs enc r) 0) :: st) K) : (@RM.dec (m.length ≤ maxLen ∧ m.length * n ≤ 140737488355328 ∧ 0 < m.length) (.put id (.row e s (recs enc m) 0) (.ret (.osl id m.length))) d).go st K := by
  obtain ⟨h1, rfl⟩ := appn_eq h he
  exact ⟨h1, hk⟩
theorem o_appnT {α : Type} {enc : α → List V} {s n : Nat} {m r : List α} {id : Nat} {e : TypeId} {d : Decidable (m.length ≤ maxLen ∧ m.length * n ≤ 140737488355328 ∧ 0 < m.length)} {K : V → ST → List Nat → List Nat → Prop} (h : appn? m n = some r) (he : ∀ a, (enc a).length = s)
    (hk : (RM.ret (.osl id r.length)).goT ((id, .row e s (recs enc r) 0) :: st) rs (id :: ws) K) : (@RM.dec (m.length ≤ maxLen ∧ m.length * n ≤ 140737488355328 ∧ 0 < m.length) (.put id (.row e s (recs enc m) 0) (.ret (.osl id m.length))) d).goT st rs ws K := by
  obtain ⟨h1, rfl⟩ := appn_eq h he
  exact ⟨h1, hk⟩
theorem o_mk {α : Type} {enc : α → List V} {s k : Nat} {z : α} {n : Int} {r : List α} {id : Nat} {e : TypeId} {zc : List V} {d : Decidable (0 ≤ n ∧ n = n ∧ n * k ≤ 281474976710656 ∧ 0 < s ∧ n ≤ maxLen)} {K : V → ST → Prop} (h : mk? z n k = some r) (hs : 0 < s) (hz : zc = enc z)
    (hk : (RM.ret (.osl id r.length)).go ((id, .row e s (recs enc r) 0) :: st) K) : (@RM.dec (0 ≤ n ∧ n = n ∧ n * k ≤ 281474976710656 ∧ 0 < s ∧ n ≤ maxLen) (.put id (.row e s (List.replicate n.toNat zc).flatten 0) (.ret (.osl id n.toNat))) d).go st K := by
  obtain ⟨h1, h2, h3⟩ := mk_eq (enc := enc) (s := s) h hs
  subst hz
  rw [h2, h3]
  exact ⟨h1, hk⟩
theorem o_mkT {α : Type} {enc : α → List V} {s k : Nat} {z : α} {n : Int} {r : List α} {id : Nat} {e : TypeId} {zc : List V} {d : Decidable (0 ≤ n ∧ n = n ∧ n * k ≤ 281474976710656 ∧ 0 < s ∧ n ≤ maxLen)} {K : V → ST → List Nat → List Nat → Prop} (h : mk? z n k = some r) (hs : 0 < s) (hz : zc = enc z)
    (hk : (RM.ret (.osl id r.length)).goT ((id, .row e s (recs enc r) 0) :: st) rs (id :: ws) K) : (@RM.dec (0 ≤ n ∧ n = n ∧ n * k ≤ 281474976710656 ∧ 0 < s ∧ n ≤ maxLen) (.put id (.row e s (List.replicate n.toNat zc).flatten 0) (.ret (.osl id n.toNat))) d).goT st rs ws K := by
  obtain ⟨h1, h2, h3⟩ := mk_eq (enc := enc) (s := s) h hs
  subst hz
  rw [h2, h3]
  exact ⟨h1, hk⟩
theorem oidx_ok {α : Type} {l : List α} {j : Int} {a : α} {s : Nat} (h : idx? l j = some a) (hs : 0 < s) : 0 ≤ j ∧ j < (l.length : Int) ∧ 0 < s := by
  obtain ⟨h0, h1, _⟩ := idx?_lt h
  exact ⟨h0, h1, hs⟩
theorem own_at {α : Type} {enc : α → List V} {s o n : Nat} {l : List α} {j : Int} {a : α} (h : idx? l j = some a) (he : ∀ a, (enc a).length = s) (ho : o + n ≤ s) :
    j.toNat * s + o + n ≤ (recs enc l).length ∧ ((recs enc l).drop (j.toNat * s + o)).take n = ((enc a).drop o).take n := by
  obtain ⟨h0, h1, hj, hx⟩ := idx?_lt h
  obtain ⟨rest, hr⟩ := recs_at he h
  have hla := he a
  constructor
  · rw [recs_length he]
    have : (j.toNat + 1) * s ≤ l.length * s := Nat.mul_le_mul_right s hj
    rw [Nat.add_mul] at this
    omega
  · rw [← List.drop_drop, hr, List.drop_append_of_le_length (by omega), List.take_append_of_le_length (by simp; omega)]
/-- A record, or a part of one, out of an own list. -/
theorem o_ldA {α : Type} {enc : α → List V} {s n : Nat} {l : List α} {j : Int} {a : α} {d : Decidable (j.toNat * s + n ≤ (recs enc l).length)} {K : V → ST → Prop} (h : idx? l j = some a) (he : ∀ a, (enc a).length = s) (ho : 0 + n ≤ s)
    (hk : (RM.retF (.agg (((enc a).drop 0).take n))).go st K) : (@RM.dec (j.toNat * s + n ≤ (recs enc l).length) (RM.retF (.agg (((recs enc l).drop (j.toNat * s)).take n))) d).go st K := by
  obtain ⟨h1, h2⟩ := own_at (o := 0) h he ho
  rw [Nat.add_zero] at h1 h2
  rw [h2]; exact ⟨h1, hk⟩
theorem o_ldB {α : Type} {enc : α → List V} {s o n : Nat} {l : List α} {j : Int} {a : α} {d : Decidable (j.toNat * s + o + n ≤ (recs enc l).length)} {K : V → ST → Prop} (h : idx? l j = some a) (he : ∀ a, (enc a).length = s) (ho : o + n ≤ s)
    (hk : (RM.retF (.agg (((enc a).drop o).take n))).go st K) : (@RM.dec (j.toNat * s + o + n ≤ (recs enc l).length) (RM.retF (.agg (((recs enc l).drop (j.toNat * s + o)).take n))) d).go st K := by
  obtain ⟨h1, h2⟩ := own_at h he ho
  rw [h2]; exact ⟨h1, hk⟩
theorem own_one {α : Type} {enc : α → List V} {s o : Nat} {l : List α} {j : Int} {a : α} (h : idx? l j = some a) (he : ∀ a, (enc a).length = s) (ho : o + 1 ≤ s) :
    j.toNat * s + o < (recs enc l).length ∧ ((recs enc l)[j.toNat * s + o]?).getD .top = ((enc a)[o]?).getD .top := by
  obtain ⟨h1, h2⟩ := own_at (o := o) (n := 1) h he ho
  refine ⟨by omega, ?_⟩
  have := congrArg (fun x => x[0]?) h2
  simp only [List.getElem?_take, List.getElem?_drop, if_pos (show 0 < 1 by decide), Nat.add_zero] at this
  rw [this]
theorem o_ldC {α : Type} {enc : α → List V} {s : Nat} {l : List α} {j : Int} {a : α} {d : Decidable (j.toNat * s < (recs enc l).length)} {K : V → ST → Prop} (h : idx? l j = some a) (he : ∀ a, (enc a).length = s) (ho : 0 + 1 ≤ s)
    (hk : (RM.retF (((enc a)[0]?).getD .top)).go st K) : (@RM.dec (j.toNat * s < (recs enc l).length) (RM.retF (((recs enc l)[j.toNat * s]?).getD .top)) d).go st K := by
  obtain ⟨h1, h2⟩ := own_one (o := 0) h he ho
  rw [Nat.add_zero] at h1 h2
  rw [h2]; exact ⟨h1, hk⟩
theorem o_ldD {α : Type} {enc : α → List V} {s o : Nat} {l : List α} {j : Int} {a : α} {d : Decidable (j.toNat * s + o < (recs enc l).length)} {K : V → ST → Prop} (h : idx? l j = some a) (he : ∀ a, (enc a).length = s) (ho : o + 1 ≤ s)
    (hk : (RM.retF (((enc a)[o]?).getD .top)).go st K) : (@RM.dec (j.toNat * s + o < (recs enc l).length) (RM.retF (((recs enc l)[j.toNat * s + o]?).getD .top)) d).go st K := by
  obtain ⟨h1, h2⟩ := own_one h he ho
  rw [h2]; exact ⟨h1, hk⟩
theorem o_ldAT {α : Type} {enc : α → List V} {s n : Nat} {l : List α} {j : Int} {a : α} {d : Decidable (j.toNat * s + n ≤ (recs enc l).length)} {K : V → ST → List Nat → List Nat → Prop} (h : idx? l j = some a) (he : ∀ a, (enc a).length = s) (ho : 0 + n ≤ s)
    (hk : (RM.retF (.agg (((enc a).drop 0).take n))).goT st rs ws K) : (@RM.dec (j.toNat * s + n ≤ (recs enc l).length) (RM.retF (.agg (((recs enc l).drop (j.toNat * s)).take n))) d).goT st rs ws K := by
  obtain ⟨h1, h2⟩ := own_at (o := 0) h he ho
  rw [Nat.add_zero] at h1 h2
  rw [h2]; exact ⟨h1, hk⟩
theorem o_ldBT {α : Type} {enc : α → List V} {s o n : Nat} {l : List α} {j : Int} {a : α} {d : Decidable (j.toNat * s + o + n ≤ (recs enc l).length)} {K : V → ST → List Nat → List Nat → Prop} (h : idx? l j = some a) (he : ∀ a, (enc a).length = s) (ho : o + n ≤ s)
    (hk : (RM.retF (.agg (((enc a).drop o).take n))).goT st rs ws K) : (@RM.dec (j.toNat * s + o + n ≤ (recs enc l).length) (RM.retF (.agg (((recs enc l).drop (j.toNat * s + o)).take n))) d).goT st rs ws K := by
  obtain ⟨h1, h2⟩ := own_at h he ho
  rw [h2]; exact ⟨h1, hk⟩
theorem o_ldCT {α : Type} {enc : α → List V} {s : Nat} {l : List α} {j : Int} {a : α} {d : Decidable (j.toNat * s < (recs enc l).length)} {K : V → ST → List Nat → List Nat → Prop} (h : idx? l j = some a) (he : ∀ a, (enc a).length = s) (ho : 0 + 1 ≤ s)
    (hk : (RM.retF (((enc a)[0]?).getD .top)).goT st rs ws K) : (@RM.dec (j.toNat * s < (recs enc l).length) (RM.retF (((recs enc l)[j.toNat * s]?).getD .top)) d).goT st rs ws K := by
  obtain ⟨h1, h2⟩ := own_one (o := 0) h he ho
  rw [Nat.add_zero] at h1 h2
  rw [h2]; exact ⟨h1, hk⟩
theorem o_ldDT {α : Type} {enc : α → List V} {s o : Nat} {l : List α} {j : Int} {a : α} {d : Decidable (j.toNat * s + o < (recs enc l).length)} {K : V → ST → List Nat → List Nat → Prop} (h : idx? l j = some a) (he : ∀ a, (enc a).length = s) (ho : o + 1 ≤ s)
    (hk : (RM.retF (((enc a)[o]?).getD .top)).goT st rs ws K) : (@RM.dec (j.toNat * s + o < (recs enc l).length) (RM.retF (((recs enc l)[j.toNat * s + o]?).getD .top)) d).goT st rs ws K := by
  obtain ⟨h1, h2⟩ := own_one h he ho
  rw [h2]; exact ⟨h1, hk⟩
/-- An element, or a part of one, is written. -/
theorem o_stA {α : Type} {enc : α → List V} {s n : Nat} {l r : List α} {j : Int} {a x : α} {new : List V} {b : Nat} {e : TypeId} {d : Decidable (new.length = n ∧ j.toNat * s + n ≤ (recs enc l).length ∧ 0 ≤ j.toNat * s)} {K : V → ST → Prop} (hi : idx? l j = some a) (h : set? l j x = some r) (he : ∀ a, (enc a).length = s) (ho : 0 + n ≤ s)
    (hn : new.length = n) (hb : (enc a).take 0 ++ new ++ (enc a).drop (0 + n) = enc x)
    (hk : (RM.ret .top).go ((b, .row e s (recs enc r) 0) :: st) K) : (@RM.dec (new.length = n ∧ j.toNat * s + n ≤ (recs enc l).length ∧ 0 ≤ j.toNat * s) (.put b (.row e s ((recs enc l).take (j.toNat * s) ++ new ++ (recs enc l).drop (j.toNat * s + n)) 0) (.ret .top)) d).go st K := by
  obtain ⟨h1, h2⟩ := set_eq (o := 0) hi h he ho hn hb
  simp only [Nat.add_zero] at h1 h2
  rw [h2]; exact ⟨h1, hk⟩
theorem o_stB {α : Type} {enc : α → List V} {s o n : Nat} {l r : List α} {j : Int} {a x : α} {new : List V} {b : Nat} {e : TypeId} {d : Decidable (new.length = n ∧ j.toNat * s + o + n ≤ (recs enc l).length ∧ 0 ≤ j.toNat * s + o)} {K : V → ST → Prop} (hi : idx? l j = some a) (h : set? l j x = some r) (he : ∀ a, (enc a).length = s) (ho : o + n ≤ s)
    (hn : new.length = n) (hb : (enc a).take o ++ new ++ (enc a).drop (o + n) = enc x)
    (hk : (RM.ret .top).go ((b, .row e s (recs enc r) 0) :: st) K) : (@RM.dec (new.length = n ∧ j.toNat * s + o + n ≤ (recs enc l).length ∧ 0 ≤ j.toNat * s + o) (.put b (.row e s ((recs enc l).take (j.toNat * s + o) ++ new ++ (recs enc l).drop (j.toNat * s + o + n)) 0) (.ret .top)) d).go st K := by
  obtain ⟨h1, h2⟩ := set_eq hi h he ho hn hb
  rw [h2]; exact ⟨h1, hk⟩
theorem o_stAT {α : Type} {enc : α → List V} {s n : Nat} {l r : List α} {j : Int} {a x : α} {new : List V} {b : Nat} {e : TypeId} {d : Decidable (new.length = n ∧ j.toNat * s + n ≤ (recs enc l).length ∧ 0 ≤ j.toNat * s)} {K : V → ST → List Nat → List Nat → Prop} (hi : idx? l j = some a) (h : set? l j x = some r) (he : ∀ a, (enc a).length = s) (ho : 0 + n ≤ s)
    (hn : new.length = n) (hb : (enc a).take 0 ++ new ++ (enc a).drop (0 + n) = enc x)
    (hk : (RM.ret .top).goT ((b, .row e s (recs enc r) 0) :: st) rs (b :: ws) K) : (@RM.dec (new.length = n ∧ j.toNat * s + n ≤ (recs enc l).length ∧ 0 ≤ j.toNat * s) (.put b (.row e s ((recs enc l).take (j.toNat * s) ++ new ++ (recs enc l).drop (j.toNat * s + n)) 0) (.ret .top)) d).goT st rs ws K := by
  obtain ⟨h1, h2⟩ := set_eq (o := 0) hi h he ho hn hb
  simp only [Nat.add_zero] at h1 h2
  rw [h2]; exact ⟨h1, hk⟩
end

/-! recursion -/
/-- Calls within calls, fewer than n. -/
def recN {α β : Type} (B : (α → Option β) → α → Option β) : Nat → α → Option β
  | 0, _ => none
  | n + 1, x => B (recN B n) x
open Classical in
/-- A function that calls itself, as deep as it needs. -/
noncomputable def fixC {α β : Type} (B : (α → Option β) → α → Option β) (x : α) : Option β :=
  if h : ∃ n e, recN B n x = some e then some h.choose_spec.choose else none
theorem fixC_ex {α β : Type} {B : (α → Option β) → α → Option β} {x : α} {y : β} (h : fixC B x = some y) : ∃ n, recN B n x = some y := by
  unfold fixC at h
  split at h
  · next hx => obtain rfl := Option.some.inj h; exact ⟨_, hx.choose_spec.choose_spec⟩
  · cases h
theorem fixC_of {α β : Type} {B : (α → Option β) → α → Option β} {x : α} {y : β} {n : Nat} (h : recN B n x = some y) (hu : ∀ m z, recN B m x = some z → z = y) : fixC B x = some y := by
  have hx : ∃ n e, recN B n x = some e := ⟨n, y, h⟩
  unfold fixC
  rw [dif_pos hx, hu _ _ hx.choose_spec.choose_spec]
theorem has_fix {P : Program} {f : FuncId} {α β : Type} {B : (α → Option β) → α → Option β} {enc : α → List V} {er : β → V} (h : ∀ n, Has P f (conF (recN B n) enc er)) : Has P f (conF (fixC B) enc er) := by
  refine ⟨?_, (h 0).2⟩
  intro x
  rcases x with ⟨a, r⟩
  intro F w vs hF hv hok
  obtain ⟨n, hn⟩ := fixC_ex hok
  exact (h n).1 (a, r) F w vs hF hv hn

/-- Elements that are no records. -/
def eI (k : IntKind) (n : Int) : List V := [.v (.int k n)]
def eB (b : Bool) : List V := [.v (.bool b)]
def eS {α : Type} (enc : α → List V) (l : List α) : List V := [.sl (recs enc l) l.length]

theorem e_some {A R : Type} {a : A} {J : A → Option R} {r : R} (h : (some a).bind J = some r) : J a = some r := h
theorem e_exit {S E R : Type} {step : S → Option (S ⊕ E)} {K : E → Option R} {n : Nat} {e : E} {r : R} (h : (some (Sum.inr e : S ⊕ E)).bind (nextF step K n) = some r) : K e = some r := h
end Go.Ev
/- Steps by themselves. -/
set_option linter.unusedVariables false
namespace Go.Ev
theorem fz_len {α : Type} {enc : α → List V} {s : Nat} (he : ∀ a, (enc a).length = s) (l : List α) : l.length * s = (recs enc l).length := (recs_length he l).symm
theorem set_len {α : Type} {l l' : List α} {j : Int} {x : α} (h : set? l j x = some l') : l'.length = l.length := by
  unfold set? at h
  split at h
  · cases h; simp
  · cases h
theorem lev_len {cs0 : List V} {n m : Nat} (h : n = m) : LeV (.sl cs0 n) (.sl cs0 m) := lev_eq (by rw [h])
/-- What is handed to a function. -/
theorem lv1 {cs0 ds0 : List V} (c : LeVs cs0 ds0 := by (first | exact levs_eq rfl | repeat' (first | exact lev_eq rfl | exact lev_nil | exact lev_len (set_len (by assumption)).symm | exact lev_len ((set_len (by assumption)).trans (set_len (by assumption))).symm | refine lev_tup ?_ | refine lev_agg ?_ | exact levs_eq rfl | refine levs_cons ?_ ?_))) : LeVs cs0 ds0 := c
/-- All steps that no fact is needed for. -/
theorem st1 {p q : Prop} (h : q) (c : q → p := by (intro h; (repeat (first | ((with_reducible refine go_ret ?_)) | ((with_reducible refine go_put ?_); (conv => arg 1; whnf)) | ((with_reducible apply go_get); exact rfl; (conv => arg 1; whnf)) | ((with_reducible refine go_req ?_ ?_); exact (of_decide_eq_true rfl); (conv => arg 1; whnf)) | ((with_reducible refine go_req ?_ ?_); exact trivial; (conv => arg 1; whnf)) | ((with_reducible refine go_req ?_ ?_); exact rfl; (conv => arg 1; whnf)) | ((with_reducible refine go_req ?_ ?_); exact (rlen (by intro _; rfl) _); (conv => arg 1; whnf)) | ((with_reducible refine go_req ?_ ?_); exact ⟨rlen (by intro _; rfl) _, by decide⟩; (conv => arg 1; whnf)) | ((with_reducible refine go_reqP ?_ ?_); exact rfl; (conv => arg 1; whnf)) | ((with_reducible refine ops_nil ?_)) | ((with_reducible refine ops_cons ?_ ?_ ?_); exact rfl; exact rfl; (conv => arg 1; whnf)) | ((with_reducible apply ops_take); exact rfl; exact rfl; exact rfl; exact rfl; (conv => arg 1; whnf)) | ((with_reducible apply ops_skip); exact rfl; exact rfl; exact rfl; exact rfl) | ((with_reducible apply ops_skipU); exact rfl; exact rfl; exact rfl; exact rfl) | ((with_reducible refine goT_ret ?_)) | ((with_reducible refine goT_put ?_); (conv => arg 1; whnf)) | ((with_reducible apply goT_get); exact rfl; (conv => arg 1; whnf)) | ((with_reducible refine goT_req ?_ ?_); exact (of_decide_eq_true rfl); (conv => arg 1; whnf)) | ((with_reducible refine goT_req ?_ ?_); exact trivial; (conv => arg 1; whnf)) | ((with_reducible refine goT_req ?_ ?_); exact rfl; (conv => arg 1; whnf)) | ((with_reducible refine goT_req ?_ ?_); exact (rlen (by intro _; rfl) _); (conv => arg 1; whnf)) | ((with_reducible refine goT_req ?_ ?_); exact ⟨rlen (by intro _; rfl) _, by decide⟩; (conv => arg 1; whnf)) | ((with_reducible refine goT_reqP ?_ ?_); exact rfl; (conv => arg 1; whnf)) | ((with_reducible refine d_step ?_ ?_); kernel_rfl) | ((with_reducible refine d_nil ?_)) | ((with_reducible refine d_cons ?_ ?_ ?_); exact rfl; exact rfl; (conv => arg 1; whnf)) | ((conv => arg 6; whnf); (with_reducible refine d_cons ?_ ?_ ?_); exact rfl; exact rfl; (conv => arg 1; whnf)) | ((conv => arg 5; whnf); (with_reducible refine ops_cons ?_ ?_ ?_); exact rfl; exact rfl; (conv => arg 1; whnf)) | ((with_reducible apply d_take); exact rfl; exact rfl; exact rfl; exact rfl; (conv => arg 1; whnf)) | ((with_reducible apply d_skip); exact rfl; exact rfl; exact rfl; exact rfl; (first | exact rfl | kernel_rfl)) | ((with_reducible apply d_skipU); exact rfl; exact rfl; exact rfl; exact rfl; (first | exact rfl | kernel_rfl)) | ((conv => arg 6; whnf); (with_reducible apply d_take); exact rfl; exact rfl; exact rfl; exact rfl; (conv => arg 1; whnf)) | ((conv => arg 6; whnf); (with_reducible apply d_skip); exact rfl; exact rfl; exact rfl; exact rfl; (first | exact rfl | kernel_rfl)) | ((with_reducible refine st_regionD ?_ ?_); kernel_rfl; (conv => arg 6; whnf)) | ((with_reducible refine st_seq ?_)) | ((with_reducible refine st_region rfl rfl ?_); (conv => arg 5; whnf)) | ((with_reducible refine st_block ?_)) | ((with_reducible refine st_skip ?_)) | ((with_reducible refine st_exit ?_)) | ((with_reducible refine st_ret ?_)) | ((with_reducible refine k_seq ?_)) | ((with_reducible refine k_seqX ?_)) | ((with_reducible refine k_seqR ?_)) | ((with_reducible refine k_block ?_)) | ((with_reducible refine k_blockX ?_)) | ((with_reducible refine k_blockY ?_ ?_); exact rfl) | ((with_reducible refine k_blockR ?_)) | ((with_reducible refine k_loopX ?_)) | ((with_reducible refine k_loopR ?_)) | ((with_reducible refine st_condT ?_ ?_); exact rfl) | ((with_reducible refine st_condF ?_ ?_); exact rfl))); exact h)) : p := c h
/-- The end of a function. -/
theorem en1 {p : Prop} (c : p := by ((conv => whnf); (repeat (first | (refine And.intro (fz_len (by intro _; rfl) _) ?_; conv => whnf) | (refine And.intro (of_decide_eq_true rfl) ?_; conv => whnf))); repeat' (first | exact lev_eq rfl | exact lev_nil | refine lev_tup ?_ | refine lev_agg ?_ | exact levs_eq rfl | refine levs_cons ?_ ?_))) : p := c
theorem fz_len2 {α : Type} {enc : α → List V} {s : Nat} {l l' : List α} (h : l'.length = l.length) (he : ∀ a, (enc a).length = s) : l.length * s = (recs enc l').length := by rw [← h]; exact (recs_length he l').symm
/-- The end of a function that makes a list. -/
theorem en2 {p : Prop} (c : p := by ((conv => whnf); (first | exact Or.inl ⟨_, _, _, rfl, rfl, fz_len (by intro _; rfl) _, rfl⟩ | exact Or.inr ⟨rfl, rfl⟩))) : p := c
theorem ren_osl {r : List (Nat × Nat)} {b b' n n' : Nat} (h : look r b = some b') (hn : n = n') : renV r (.osl b n) = some (.osl b' n') := by
  subst hn
  simp [renV, renP, h]
/-- The slots, the boxes at a loop's head. -/
theorem sT {p : Prop} (c : p := by (repeat (first | exact trivial | refine And.intro (Or.inl rfl) ?_ | refine And.intro (Or.inl (ren_fn (by assumption) _)) ?_ | refine And.intro (Or.inl (ren_osl rfl (by first | exact set_len (by assumption) | exact (set_len (by assumption)).trans (set_len (by assumption))))) ?_ | refine And.intro (Or.inr rfl) ?_))) : p := c
theorem sC {p : Prop} (c : p := by (repeat (first | exact trivial | refine And.intro (Or.inl rfl) ?_ | refine And.intro (Or.inl (ren_fn (by assumption) _)) ?_ | refine And.intro (Or.inl (ren_osl rfl (by first | exact set_len (by assumption) | exact (set_len (by assumption)).trans (set_len (by assumption))))) ?_ | refine And.intro (Or.inr rfl) ?_))) : p := c
theorem sS {p : Prop} (c : p := by (repeat (first | exact trivial | refine And.intro (Or.inl ⟨_, _, rfl, rfl, rfl⟩) ?_ | refine And.intro (Or.inr (Or.inl rfl)) ?_ | refine And.intro (Or.inr (Or.inr ⟨_, _, _, _, rfl, rfl, rfl, sC⟩)) ?_))) : p := c
end Go.Ev
/- What is handed to a law, read as values without memory. -/
set_option linter.unusedVariables false
set_option linter.unusedSimpArgs false
namespace Go.Ev
open Go.RowKit Go.ChangeShapes

def All2 {α β : Type} (R : α → β → Prop) : List α → List β → Prop
  | [], [] => True
  | a :: l0, b :: m0 => R a b ∧ All2 R l0 m0
  | _, _ => False

theorem all2_1 {α β : Type} {R : α → β → Prop} {x0 : α} {ls : List β} (h : All2 R [x0] ls) : ∃ a0, ls = [a0] ∧ R x0 a0 := by
  match ls, h with
  | [a0], ⟨h0, _⟩ => exact ⟨a0, rfl, h0⟩

theorem all2_2 {α β : Type} {R : α → β → Prop} {x0 x1 : α} {ls : List β} (h : All2 R [x0, x1] ls) : ∃ a0 a1, ls = [a0, a1] ∧ R x0 a0 ∧ R x1 a1 := by
  match ls, h with
  | [a0, a1], ⟨h0, h1, _⟩ => exact ⟨a0, a1, rfl, h0, h1⟩

theorem all2_3 {α β : Type} {R : α → β → Prop} {x0 x1 x2 : α} {ls : List β} (h : All2 R [x0, x1, x2] ls) : ∃ a0 a1 a2, ls = [a0, a1, a2] ∧ R x0 a0 ∧ R x1 a1 ∧ R x2 a2 := by
  match ls, h with
  | [a0, a1, a2], ⟨h0, h1, h2, _⟩ => exact ⟨a0, a1, a2, rfl, h0, h1, h2⟩

theorem all2_4 {α β : Type} {R : α → β → Prop} {x0 x1 x2 x3 : α} {ls : List β} (h : All2 R [x0, x1, x2, x3] ls) : ∃ a0 a1 a2 a3, ls = [a0, a1, a2, a3] ∧ R x0 a0 ∧ R x1 a1 ∧ R x2 a2 ∧ R x3 a3 := by
  match ls, h with
  | [a0, a1, a2, a3], ⟨h0, h1, h2, h3, _⟩ => exact ⟨a0, a1, a2, a3, rfl, h0, h1, h2, h3⟩

theorem all2_5 {α β : Type} {R : α → β → Prop} {x0 x1 x2 x3 x4 : α} {ls : List β} (h : All2 R [x0, x1, x2, x3, x4] ls) : ∃ a0 a1 a2 a3 a4, ls = [a0, a1, a2, a3, a4] ∧ R x0 a0 ∧ R x1 a1 ∧ R x2 a2 ∧ R x3 a3 ∧ R x4 a4 := by
  match ls, h with
  | [a0, a1, a2, a3, a4], ⟨h0, h1, h2, h3, h4, _⟩ => exact ⟨a0, a1, a2, a3, a4, rfl, h0, h1, h2, h3, h4⟩

theorem all2_6 {α β : Type} {R : α → β → Prop} {x0 x1 x2 x3 x4 x5 : α} {ls : List β} (h : All2 R [x0, x1, x2, x3, x4, x5] ls) : ∃ a0 a1 a2 a3 a4 a5, ls = [a0, a1, a2, a3, a4, a5] ∧ R x0 a0 ∧ R x1 a1 ∧ R x2 a2 ∧ R x3 a3 ∧ R x4 a4 ∧ R x5 a5 := by
  match ls, h with
  | [a0, a1, a2, a3, a4, a5], ⟨h0, h1, h2, h3, h4, h5, _⟩ => exact ⟨a0, a1, a2, a3, a4, a5, rfl, h0, h1, h2, h3, h4, h5⟩

theorem all2_7 {α β : Type} {R : α → β → Prop} {x0 x1 x2 x3 x4 x5 x6 : α} {ls : List β} (h : All2 R [x0, x1, x2, x3, x4, x5, x6] ls) : ∃ a0 a1 a2 a3 a4 a5 a6, ls = [a0, a1, a2, a3, a4, a5, a6] ∧ R x0 a0 ∧ R x1 a1 ∧ R x2 a2 ∧ R x3 a3 ∧ R x4 a4 ∧ R x5 a5 ∧ R x6 a6 := by
  match ls, h with
  | [a0, a1, a2, a3, a4, a5, a6], ⟨h0, h1, h2, h3, h4, h5, h6, _⟩ => exact ⟨a0, a1, a2, a3, a4, a5, a6, rfl, h0, h1, h2, h3, h4, h5, h6⟩

theorem all2_8 {α β : Type} {R : α → β → Prop} {x0 x1 x2 x3 x4 x5 x6 x7 : α} {ls : List β} (h : All2 R [x0, x1, x2, x3, x4, x5, x6, x7] ls) : ∃ a0 a1 a2 a3 a4 a5 a6 a7, ls = [a0, a1, a2, a3, a4, a5, a6, a7] ∧ R x0 a0 ∧ R x1 a1 ∧ R x2 a2 ∧ R x3 a3 ∧ R x4 a4 ∧ R x5 a5 ∧ R x6 a6 ∧ R x7 a7 := by
  match ls, h with
  | [a0, a1, a2, a3, a4, a5, a6, a7], ⟨h0, h1, h2, h3, h4, h5, h6, h7, _⟩ => exact ⟨a0, a1, a2, a3, a4, a5, a6, a7, rfl, h0, h1, h2, h3, h4, h5, h6, h7⟩

theorem all2_9 {α β : Type} {R : α → β → Prop} {x0 x1 x2 x3 x4 x5 x6 x7 x8 : α} {ls : List β} (h : All2 R [x0, x1, x2, x3, x4, x5, x6, x7, x8] ls) : ∃ a0 a1 a2 a3 a4 a5 a6 a7 a8, ls = [a0, a1, a2, a3, a4, a5, a6, a7, a8] ∧ R x0 a0 ∧ R x1 a1 ∧ R x2 a2 ∧ R x3 a3 ∧ R x4 a4 ∧ R x5 a5 ∧ R x6 a6 ∧ R x7 a7 ∧ R x8 a8 := by
  match ls, h with
  | [a0, a1, a2, a3, a4, a5, a6, a7, a8], ⟨h0, h1, h2, h3, h4, h5, h6, h7, h8, _⟩ => exact ⟨a0, a1, a2, a3, a4, a5, a6, a7, a8, rfl, h0, h1, h2, h3, h4, h5, h6, h7, h8⟩

theorem all2_10 {α β : Type} {R : α → β → Prop} {x0 x1 x2 x3 x4 x5 x6 x7 x8 x9 : α} {ls : List β} (h : All2 R [x0, x1, x2, x3, x4, x5, x6, x7, x8, x9] ls) : ∃ a0 a1 a2 a3 a4 a5 a6 a7 a8 a9, ls = [a0, a1, a2, a3, a4, a5, a6, a7, a8, a9] ∧ R x0 a0 ∧ R x1 a1 ∧ R x2 a2 ∧ R x3 a3 ∧ R x4 a4 ∧ R x5 a5 ∧ R x6 a6 ∧ R x7 a7 ∧ R x8 a8 ∧ R x9 a9 := by
  match ls, h with
  | [a0, a1, a2, a3, a4, a5, a6, a7, a8, a9], ⟨h0, h1, h2, h3, h4, h5, h6, h7, h8, h9, _⟩ => exact ⟨a0, a1, a2, a3, a4, a5, a6, a7, a8, a9, rfl, h0, h1, h2, h3, h4, h5, h6, h7, h8, h9⟩

theorem all2_11 {α β : Type} {R : α → β → Prop} {x0 x1 x2 x3 x4 x5 x6 x7 x8 x9 x10 : α} {ls : List β} (h : All2 R [x0, x1, x2, x3, x4, x5, x6, x7, x8, x9, x10] ls) : ∃ a0 a1 a2 a3 a4 a5 a6 a7 a8 a9 a10, ls = [a0, a1, a2, a3, a4, a5, a6, a7, a8, a9, a10] ∧ R x0 a0 ∧ R x1 a1 ∧ R x2 a2 ∧ R x3 a3 ∧ R x4 a4 ∧ R x5 a5 ∧ R x6 a6 ∧ R x7 a7 ∧ R x8 a8 ∧ R x9 a9 ∧ R x10 a10 := by
  match ls, h with
  | [a0, a1, a2, a3, a4, a5, a6, a7, a8, a9, a10], ⟨h0, h1, h2, h3, h4, h5, h6, h7, h8, h9, h10, _⟩ => exact ⟨a0, a1, a2, a3, a4, a5, a6, a7, a8, a9, a10, rfl, h0, h1, h2, h3, h4, h5, h6, h7, h8, h9, h10⟩

theorem all2_12 {α β : Type} {R : α → β → Prop} {x0 x1 x2 x3 x4 x5 x6 x7 x8 x9 x10 x11 : α} {ls : List β} (h : All2 R [x0, x1, x2, x3, x4, x5, x6, x7, x8, x9, x10, x11] ls) : ∃ a0 a1 a2 a3 a4 a5 a6 a7 a8 a9 a10 a11, ls = [a0, a1, a2, a3, a4, a5, a6, a7, a8, a9, a10, a11] ∧ R x0 a0 ∧ R x1 a1 ∧ R x2 a2 ∧ R x3 a3 ∧ R x4 a4 ∧ R x5 a5 ∧ R x6 a6 ∧ R x7 a7 ∧ R x8 a8 ∧ R x9 a9 ∧ R x10 a10 ∧ R x11 a11 := by
  match ls, h with
  | [a0, a1, a2, a3, a4, a5, a6, a7, a8, a9, a10, a11], ⟨h0, h1, h2, h3, h4, h5, h6, h7, h8, h9, h10, h11, _⟩ => exact ⟨a0, a1, a2, a3, a4, a5, a6, a7, a8, a9, a10, a11, rfl, h0, h1, h2, h3, h4, h5, h6, h7, h8, h9, h10, h11⟩

/-- The cells of a value of a type. -/
def Typ (P : Program) : Nat → TypeId → List V → Prop
  | 0, _, _ => False
  | n + 1, t, vs => match P.underlying t with
    | some .bool => ∃ b, vs = [.v (.bool b)]
    | some (.int k) => ∃ i, vs = [.v (.int k i)] ∧ (Lit.int k i).wf = true
    | some .string => ∃ s : ByteArray, vs = [.v (.string s)] ∧ s.size ≤ reachBytes
    | some (.slice e) => ∃ ls : List (List V), vs = [.sl ls.flatten ls.length] ∧ (∀ l ∈ ls, Typ P n e l) ∧ ls.length * P.bytesOf e ≤ reachBytes
    | some (.struct fs) => ∃ ls : List (List V), vs = ls.flatten ∧ All2 (fun (f : Field) l => Typ P n f.type l) fs.toList ls
    | some (.array k e) => ∃ ls : List (List V), vs = ls.flatten ∧ ls.length = k ∧ ∀ l ∈ ls, Typ P n e l
    | _ => False

section
variable {P : Program} {H : Type} {enc : TypeId × Value → H} {W : World}

theorem cells?_eq {g o n : Nat} {l : List Value} (h : W.cells? 0 ⟨g, o, none⟩ n = some l) : ((cellsAt W.heap g).drop o).take n = l ∧ l.length = n := by
  simp only [World.cells?, Nat.zero_le, if_true] at h
  obtain ⟨h1, h2⟩ := mapM_get (f := fun i => W.cell? (Addr.add ⟨g, o, none⟩ i)) h
  have hl : l.length = n := by rw [← h1]; simp
  refine ⟨?_, hl⟩
  apply List.ext_getElem?
  intro i
  by_cases hi : i < n
  · rw [List.getElem?_take, if_pos hi, List.getElem?_drop]
    obtain ⟨v, hv1, hv2⟩ := h2 i i (by simp [hi])
    rw [hv1]
    have e : Addr.add ⟨g, o, none⟩ i = ⟨g, o + i, none⟩ := by
      unfold Addr.add
      split
      · next e => subst e; rfl
      · rfl
    rw [e] at hv2
    unfold World.cell? at hv2
    unfold cellsAt
    split at hv2
    · next c _ _ hh => simp at hv2; simp [hh, hv2]
    · cases hv2
  · rw [List.getElem?_eq_none (by rw [List.length_take]; omega), List.getElem?_eq_none (by omega)]

theorem cells?_lt {g o n : Nat} {l : List Value} (h : W.cells? 0 ⟨g, o, none⟩ n = some l) (hn : 0 < n) : g < W.heap.size := by
  obtain ⟨h1, h2⟩ := cells?_eq h
  refine Decidable.byContradiction fun hc => ?_
  have : cellsAt W.heap g = [] := by unfold cellsAt; rw [Array.getElem?_eq_none (by omega)]
  rw [this] at h1
  simp at h1
  subst h1
  simp at h2
  omega

theorem RCs_append_iff {F : FZ} {Hp : Array Obj} {one : Bool} {cs ds : List V} {xs ys : List Value} (h : RCs F Hp one cs xs) (k : RCs F Hp one ds ys) : RCs F Hp one (cs ++ ds) (xs ++ ys) := RCs_append h k

theorem weightsAll_mem {p : Nat → Bool} {e : TypeId} : ∀ {ds : List (DataW H)}, (DataW.weightsAll P e ds).all p = true → ∀ d ∈ ds, (d.weights P e).all p = true
  | [], _, d, h => by cases h
  | d0 :: ds, h, d, hd => by
    simp only [DataW.weightsAll, List.all_append, Bool.and_eq_true] at h
    cases hd with
    | head => exact h.1
    | tail _ hd => exact weightsAll_mem h.2 d hd

theorem weightsEach_get {p : Nat → Bool} : ∀ {ts : List TypeId} {ds : List (DataW H)}, (DataW.weightsEach P ts ds).all p = true → ∀ (i : Nat) (t : TypeId) (d : DataW H), ts[i]? = some t → ds[i]? = some d → (d.weights P t).all p = true
  | [], _, _, i, t, d, ht, _ => by simp at ht
  | _ :: _, [], _, i, t, d, _, hd => by simp at hd
  | t0 :: ts, d0 :: ds, h, i, t, d, ht, hd => by
    simp only [DataW.weightsEach, List.all_append, Bool.and_eq_true] at h
    cases i with
    | zero => simp at ht hd; subst ht hd; exact h.1
    | succ i => exact weightsEach_get h.2 i t d (by simpa using ht) (by simpa using hd)

theorem pieces {F : FZ} {Hp : Array Obj} {size : Field → Nat} {Q : Field → List V → Prop} : ∀ (fs : List Field) (off : Nat) (cs : List Value), (∀ (j : Nat) (f : Field), fs[j]? = some f → f.offset = off + ((fs.take j).map size).sum) →
    (∀ (j : Nat) (f : Field), fs[j]? = some f → ∃ vs, RCs F Hp true vs ((cs.drop f.offset).take (size f)) ∧ Q f vs) → off + (fs.map size).sum = cs.length → ∃ ls : List (List V), RCs F Hp true ls.flatten (cs.drop off) ∧ All2 Q fs ls
  | [], off, cs, _, _, hl => by
    refine ⟨[], ?_, trivial⟩
    rw [List.drop_of_length_le (by simp at hl; omega)]
    trivial
  | f :: fs, off, cs, ho, hp, hl => by
    obtain ⟨vs, h1, h2⟩ := hp 0 f rfl
    have ho0 : f.offset = off := by have := ho 0 f rfl; simpa using this
    rw [ho0] at h1
    obtain ⟨ls, h3, h4⟩ := pieces fs (off + size f) cs (by
      intro j f' hf
      have := ho (j + 1) f' (by simpa using hf)
      rw [this, List.take_succ_cons, List.map_cons, List.sum_cons]
      omega) (fun j f' hf => hp (j + 1) f' (by simpa using hf)) (by simp at hl; omega)
    refine ⟨vs :: ls, ?_, h2, h4⟩
    rw [List.flatten_cons]
    have : cs.drop off = (cs.drop off).take (size f) ++ cs.drop (off + size f) := by rw [← List.drop_drop, List.take_append_drop]
    rw [this]
    exact RCs_append h1 h3

theorem rows_RCs {F : FZ} {Hp : Array Obj} {L : List Value} {size : Nat} {Q : List V → Prop} : ∀ (n : Nat), (∀ i, i < n → ∃ vs, RCs F Hp true vs ((L.drop (i * size)).take size) ∧ Q vs) →
    ∃ ls : List (List V), ls.length = n ∧ RCs F Hp true ls.flatten (L.take (n * size)) ∧ ∀ l ∈ ls, Q l
  | 0, _ => ⟨[], rfl, by simp [RCs], by simp⟩
  | n + 1, h => by
    obtain ⟨ls, h1, h2, h3⟩ := rows_RCs n fun i hi => h i (by omega)
    obtain ⟨vs, h4, h5⟩ := h n (by omega)
    refine ⟨ls ++ [vs], by simp [h1], ?_, ?_⟩
    · rw [List.flatten_append, Nat.add_mul, Nat.one_mul, List.take_add]
      simpa using RCs_append h2 h4
    · intro l hl
      rcases List.mem_append.1 hl with hl | hl
      · exact h3 l hl
      · simp at hl; subst hl; exact h5

/-- Types without pointers, maps, functions; structs and arrays lie cell by cell. -/
def plainT (P : Program) : Nat → TypeId → Bool
  | 0, _ => false
  | n + 1, t => match P.underlying t with
    | some .bool => true
    | some (.int _) => true
    | some .string => true
    | some (.slice e) => plainT P n e
    | some (.struct fs) => fs.toList.all (fun f => plainT P n f.type) && P.cellsOf t == (fs.toList.map fun f => P.cellsOf f.type).sum &&
        (List.range fs.toList.length).all fun j => match fs.toList[j]? with | some f => f.offset == ((fs.toList.take j).map fun f => P.cellsOf f.type).sum | none => true
    | some (.array k e) => plainT P n e && P.cellsOf t == k * P.cellsOf e
    | _ => false

theorem RCs_lit {v : Value} (h : v.oneCell' = true) : RCs (fun g _ => g < W.heap.size) W.heap true [.v v] [v] := ⟨⟨rfl, fun _ => h⟩, trivial⟩

theorem mapM_opt {α β : Type} {f : α → Option β} : ∀ {l : List α} {l' : List β}, l.mapM f = some l' → l.length = l'.length ∧ ∀ (i : Nat) (a : α), l[i]? = some a → ∃ b, l'[i]? = some b ∧ f a = some b := mapM_get

/-- WHAT CAN BE READ AS DATA HAS CELLS OF ITS TYPE. -/
theorem trod_typ {sp : Nat → Bool} {held : Bool} : ∀ (k : Nat) (t : TypeId), plainT P k t = true → ∀ (fuel : Nat) (cs : List Value) (x : DataW H × List MemPlace),
    DataW.trod enc P W 0 sp held fuel t cs = some x → (x.1.weights P t).all (· ≤ reachBytes) = true → ∃ vs, RCs (fun g _ => g < W.heap.size) W.heap true vs cs ∧ Typ P k t vs
  | 0, t, hp, _, _, _, _, _ => by cases hp
  | k + 1, t, hp, fuel, cs, x, h, hw => by
    simp only [plainT] at hp
    split at hp
    · next ht =>
      obtain ⟨b, rfl, rfl⟩ := DataW.trod_bool ht h
      simp only [Typ, ht]
      exact ⟨_, RCs_lit rfl, b, rfl⟩
    · next kk ht =>
      obtain ⟨n, rfl, rfl, hwf⟩ := DataW.trod_int ht h
      simp only [Typ, ht]
      exact ⟨_, RCs_lit rfl, n, rfl, hwf⟩
    · next ht =>
      obtain ⟨s, rfl, rfl, hs⟩ := DataW.trod_string ht h
      simp only [Typ, ht]
      refine ⟨_, RCs_lit rfl, s, rfl, ?_⟩
      simp [DataW.weights] at hw
      exact hw
    · next e ht =>
      simp only [Typ, ht]
      rcases DataW.trod_slice ht h with ⟨rfl, rfl⟩ | ⟨a, len, cap, elems, rest, n, rfl, rfl, rfl, hb, hlc, hm, hlen, hel, _, _⟩
      · exact ⟨[.sl [] 0], ⟨⟨⟨none, 0, rfl, Nat.le_refl _, Nat.zero_le _, .inl rfl⟩, fun _ => rfl⟩, trivial⟩, [], rfl, by simp, by simp⟩
      · simp only [DataW.weights, ht, List.all_cons, Bool.and_eq_true, decide_eq_true_eq, List.all_append, List.length_map] at hw
        obtain ⟨hw1, hw2, _⟩ := hw
        have key : ∀ i, i < len → ∃ ecs y, W.cells? 0 (a.add (i * P.cellsOf e)) (P.cellsOf e) = some ecs ∧ DataW.trod enc P W 0 sp held n e ecs = some y ∧ (y.1.weights P e).all (· ≤ reachBytes) = true := by
          intro i hi
          have h1 := hel i hi
          have hie : i < elems.length := by omega
          rw [List.getElem?_eq_getElem hie, Option.bind_eq_some_iff] at h1
          obtain ⟨ecs, h2, h3⟩ := h1
          exact ⟨ecs, _, h2, h3, weightsAll_mem hw2 _ (List.mem_map.2 ⟨_, List.getElem_mem hie, rfl⟩)⟩
        obtain ⟨g, off, spot⟩ := a
        have hbound : len * P.bytesOf e ≤ reachBytes := Nat.le_trans (Nat.mul_le_mul_right _ (by omega)) hw1
        by_cases hz : len * P.cellsOf e = 0
        · -- no cells
          have : ∃ ls : List (List V), ls.length = len ∧ ls.flatten = [] ∧ ∀ l ∈ ls, Typ P k e l := by
            refine ⟨List.replicate len [], by simp, by simp, ?_⟩
            intro l hl
            obtain ⟨hl1, rfl⟩ := List.mem_replicate.1 hl
            have hlen0 : 0 < len := by omega
            have hc0 : P.cellsOf e = 0 := by
              rcases Nat.mul_eq_zero.1 hz with h | h
              · omega
              · exact h
            obtain ⟨ecs, y, h1, h2, h3⟩ := key 0 hlen0
            obtain ⟨vs, h4, h5⟩ := trod_typ k e hp n ecs y h2 h3
            have : ecs = [] := by
              simp [World.cells?, hc0] at h1
              exact h1
            subst this
            have := RCs_length h4
            simp at this
            subst this
            exact h5
          obtain ⟨ls, l1, l2, l3⟩ := this
          exact ⟨[.sl ls.flatten ls.length], ⟨⟨⟨_, cap, by rw [l1], by omega, hm, .inl l2⟩, fun _ => rfl⟩, trivial⟩, ls, rfl, l3, by rw [l1]; exact hbound⟩
        · have hpos : 0 < len ∧ 0 < P.cellsOf e := ⟨Nat.pos_of_ne_zero fun e0 => hz (by rw [e0, Nat.zero_mul]), Nat.pos_of_ne_zero fun e0 => hz (by rw [e0, Nat.mul_zero])⟩
          have hspot : spot = none := by
            obtain ⟨ecs, y, h1, _⟩ := key 0 hpos.1
            rw [Nat.zero_mul] at h1
            simp only [World.cells?, Nat.zero_le, if_true] at h1
            obtain ⟨_, h2⟩ := mapM_opt (f := fun i => W.cell? ((Addr.add ⟨g, off, spot⟩ 0).add i)) h1
            obtain ⟨v, _, h3⟩ := h2 0 0 (by simp [hpos.2])
            cases spot with
            | none => rfl
            | some q =>
              unfold World.cell? at h3
              split at h3
              · simp [Addr.add] at h3
              · cases h3
          subst hspot
          have hadd : ∀ i, Addr.add ⟨g, off, none⟩ (i * P.cellsOf e) = ⟨g, off + i * P.cellsOf e, none⟩ := by
            intro i
            unfold Addr.add
            split
            · next e0 => rw [e0]; rfl
            · rfl
          have hlt : g < W.heap.size := by
            obtain ⟨ecs, y, h1, _⟩ := key 0 hpos.1
            rw [hadd] at h1
            exact cells?_lt h1 hpos.2
          obtain ⟨ls, l1, l2, l3⟩ := rows_RCs (F := fun g _ => g < W.heap.size) (Hp := W.heap) (L := (cellsAt W.heap g).drop off) (size := P.cellsOf e) (Q := Typ P k e) len (by
            intro i hi
            obtain ⟨ecs, y, h1, h2, h3⟩ := key i hi
            obtain ⟨vs, h4, h5⟩ := trod_typ k e hp n ecs y h2 h3
            rw [hadd] at h1
            obtain ⟨h6, _⟩ := cells?_eq h1
            refine ⟨vs, ?_, h5⟩
            rw [List.drop_drop, h6]
            exact h4)
          have hfl : ls.flatten.length ≤ len * P.cellsOf e := by
            have := RCs_length l2
            rw [List.length_take] at this
            omega
          refine ⟨[.sl ls.flatten ls.length], ⟨⟨⟨_, cap, by rw [l1], by omega, hm, .inr ⟨g, off, rfl, fun _ _ => hlt, ?_⟩⟩, fun _ => rfl⟩, trivial⟩, ls, rfl, l3, by rw [l1]; exact hbound⟩
          have e1 := RCs_length l2
          have : ((cellsAt W.heap g).drop off).take ls.flatten.length = ((cellsAt W.heap g).drop off).take (len * P.cellsOf e) := by
            rw [e1, List.length_take]
            rcases Nat.le_total (len * P.cellsOf e) ((cellsAt W.heap g).drop off).length with hh | hh
            · rw [Nat.min_eq_left hh]
            · rw [Nat.min_eq_right hh, List.take_of_length_le (Nat.le_refl _), List.take_of_length_le hh]
          rw [this]
          exact l2
    · next fs ht =>
      simp only [Typ, ht]
      rw [Bool.and_eq_true, Bool.and_eq_true] at hp
      obtain ⟨⟨hp1, hp2⟩, hp3⟩ := hp
      obtain ⟨xs, n, rfl, rfl, hlen, hxs, hf⟩ := DataW.trod_struct ht h
      simp only [DataW.weights, ht] at hw
      obtain ⟨ls, l1, l2⟩ := pieces (F := fun g _ => g < W.heap.size) (Hp := W.heap) (size := fun f => P.cellsOf f.type) (Q := fun f l => Typ P k f.type l) fs.toList 0 cs (by
        intro j f hj
        have hjl : j < fs.toList.length := (List.getElem?_eq_some_iff.1 hj).1
        have := List.all_eq_true.1 hp3 j (List.mem_range.2 hjl)
        simp only [hj, beq_iff_eq] at this
        omega) (by
        intro j f hj
        have hj' : fs[j]? = some f := by rw [← Array.getElem?_toList]; exact hj
        have h1 := hf j f hj'
        have hjx : j < xs.length := by rw [hxs]; have := (List.getElem?_eq_some_iff.1 hj).1; simpa using this
        rw [List.getElem?_eq_getElem hjx] at h1
        refine trod_typ k f.type (List.all_eq_true.1 hp1 f (List.mem_of_getElem? hj)) n _ _ h1 ?_
        exact weightsEach_get hw j f.type _ (by simp [hj]) (by simp [hjx])) (by
        rw [hlen, beq_iff_eq.1 hp2]; omega)
      exact ⟨ls.flatten, by simpa using l1, ls, rfl, l2⟩
    · next m e ht =>
      simp only [Typ, ht]
      rw [Bool.and_eq_true] at hp
      obtain ⟨hp1, hp2⟩ := hp
      obtain ⟨xs, n, rfl, rfl, hlen, hxs, hf⟩ := DataW.trod_array ht h
      simp only [DataW.weights, ht] at hw
      obtain ⟨ls, l1, l2, l3⟩ := rows_RCs (F := fun g _ => g < W.heap.size) (Hp := W.heap) (L := cs) (size := P.cellsOf e) (Q := Typ P k e) m (by
        intro i hi
        have h1 := hf i hi
        have hix : i < xs.length := by omega
        rw [List.getElem?_eq_getElem hix] at h1
        exact trod_typ k e hp1 n _ _ h1 (weightsAll_mem hw _ (List.mem_map.2 ⟨_, List.getElem_mem hix, rfl⟩)))
      refine ⟨ls.flatten, ?_, ls, rfl, l1, l3⟩
      rw [beq_iff_eq.1 hp2] at hlen
      rwa [List.take_of_length_le (by omega)] at l2
    · cases hp
end

/-- A value out of its cells. -/
def typeV (P : Program) (t : TypeId) (vs : List V) : V := match P.underlying t with
  | some (.struct _) => .agg vs
  | some (.array _ _) => .agg vs
  | _ => (vs[0]?).getD .top

section
variable {P : Program} {H : Type} {enc : TypeId × Value → H} {W W' : World}

theorem cells_agg {v c : Value} (h : v.cells.toList = [c]) : v = c ∨ v = .agg #[c] := by
  cases v with
  | agg cs =>
    right
    have : cs.toList = [c] := h
    rw [show cs = #[c] from Array.ext' this]
  | _ => left; simpa [Value.cells] using h

theorem typeV_RC {F : FZ} {Hp : Array Obj} {r : Reach} {b0 k : Nat} {t : TypeId} {v : Value} {vs : List V} (hval : Value.okWide P W r b0 t v) (hr : RCs F Hp true vs v.cells.toList) (ht : Typ P k t vs) : RC F Hp (typeV P t vs) v := by
  cases k with
  | zero => exact ht.elim
  | succ k =>
    have single : ∀ c, vs = [c] → typeV P t vs = c → (∀ x, ¬ Value.okWide P W r b0 t (.agg x)) → RC F Hp (typeV P t vs) v := by
      intro c hc htv hno
      subst hc
      rw [htv]
      obtain ⟨x, hx⟩ : ∃ x, v.cells.toList = [x] := by
        have := RCs_length hr
        match hv : v.cells.toList with
        | [x] => exact ⟨x, rfl⟩
        | [] => rw [hv] at this; simp at this
        | _ :: _ :: _ => rw [hv] at this; simp at this
      rw [hx] at hr
      rcases cells_agg hx with rfl | rfl
      · exact hr.1.1
      · exact absurd hval (hno _)
    unfold Typ at ht
    split at ht
    · next hu =>
      obtain ⟨b, hb⟩ := ht
      exact single _ hb (by simp [typeV, hu, hb]) (by intro x; simp [Value.okWide, hu, Cell.okWide, Cell.ok])
    · next kk hu =>
      obtain ⟨i, hb, _⟩ := ht
      exact single _ hb (by simp [typeV, hu, hb]) (by intro x; simp [Value.okWide, hu, Cell.okWide, Cell.ok])
    · next hu =>
      obtain ⟨b, hb, _⟩ := ht
      exact single _ hb (by simp [typeV, hu, hb]) (by intro x; simp [Value.okWide, hu, Cell.okWide, Cell.ok])
    · next e hu =>
      obtain ⟨b, hb, _⟩ := ht
      exact single _ hb (by simp [typeV, hu, hb]) (by intro x; simp [Value.okWide, hu, Cell.okWide, Cell.ok])
    · next fs hu =>
      simp only [Value.okWide, hu] at hval
      obtain ⟨cs, rfl, _⟩ := hval
      simp only [typeV, hu]
      exact ⟨cs, rfl, hr⟩
    · next n e hu =>
      simp only [Value.okWide, hu] at hval
      obtain ⟨cs, rfl, _⟩ := hval
      simp only [typeV, hu]
      exact ⟨cs, rfl, hr⟩
    · exact ht.elim

/-- The arguments, one by one. -/
theorem args_typ {sp : Nat → Bool} {held : Bool} {r : Reach} {b0 k : Nat} : ∀ (ts : List TypeId) (args : List Value) (ds : List (DataW H)) (ps : List MemPlace), ts.all (plainT P k) = true → DataW.TrodAll enc P W 0 sp held ts args ds ps →
    (∀ (j : Nat) t v, ts[j]? = some t → args[j]? = some v → Value.okWide P W r b0 t v) → (DataW.weightsEach P ts ds).all (· ≤ reachBytes) = true →
    ∃ vss : List (List V), All2 (fun t vs => Typ P k t vs) ts vss ∧ RCs (fun g _ => g < W.heap.size) W.heap false ((ts.zip vss).map fun (t, vs) => typeV P t vs) args
  | [], args, ds, ps, _, h, _, _ => by
    obtain ⟨rfl, rfl, rfl⟩ := trodAll_nil h
    exact ⟨[], trivial, trivial⟩
  | t :: ts, args, ds, ps, hp, h, hval, hw => by
    obtain ⟨v, vs1, d, ds1, p, q, rfl, rfl, rfl, h1, h2⟩ := trodAll_cons h
    simp only [List.all_cons, Bool.and_eq_true] at hp
    simp only [DataW.weightsEach, List.all_append, Bool.and_eq_true] at hw
    obtain ⟨vss, a1, a2⟩ := args_typ ts vs1 ds1 q hp.2 h2 (fun j t v e1 e2 => hval (j + 1) t v (by simpa using e1) (by simpa using e2)) hw.2
    obtain ⟨fuel, hf⟩ := h1
    obtain ⟨vs, c1, c2⟩ := trod_typ k t hp.1 fuel _ _ hf hw.1
    exact ⟨vs :: vss, ⟨c2, a1⟩, ⟨typeV_RC (hval 0 t v rfl rfl) c1 c2, fun e => by cases e⟩, a2⟩

theorem stays_all (hl : laidOutB P = true) (hb : Below W.heap.size W W') {sp : Nat → Bool} : ∀ (ts : List TypeId) (args : List Value) (ds : List (DataW H)) (ps : List MemPlace), ts.all (fun t => P.readableRec t && decide (t < P.types.size)) = true →
    DataW.TrodAll enc P W 0 (fun _ => true) true ts args ds ps → (∀ p ∈ ps, p.block < W.heap.size) → (∀ p ∈ ps, sp p.block = true) → DataW.TrodAll enc P W' 0 sp true ts args ds ps
  | [], args, ds, ps, _, h, _, _ => by
    obtain ⟨rfl, rfl, rfl⟩ := trodAll_nil h
    exact trodAll_mk0
  | t :: ts, args, ds, ps, hr, h, hlt, hsp => by
    obtain ⟨v, vs1, d, ds1, p, q, rfl, rfl, rfl, h1, h2⟩ := trodAll_cons h
    simp only [List.all_cons, Bool.and_eq_true, decide_eq_true_eq] at hr
    refine trodAll_cons_mk ?_ (stays_all hl hb ts vs1 ds1 q hr.2 h2 (fun p hp => hlt p (by simp [hp])) (fun p hp => hsp p (by simp [hp])))
    exact WideElems.Trod_stays hl hr.1.1 hr.1.2 h1 (fun x hx => hb.same (hlt x (by simp [hx]))) (fun x hx => hsp x (by simp [hx]))

theorem trod_len {sp : Nat → Bool} {held : Bool} {b0 : Nat} : ∀ (ts : List TypeId) (args : List Value) (ds : List (DataW H)) (ps : List MemPlace), DataW.TrodAll enc P W b0 sp held ts args ds ps → ds.length = ts.length
  | [], args, ds, ps, h => by
    obtain ⟨rfl, rfl, rfl⟩ := trodAll_nil h
    rfl
  | t :: ts, args, ds, ps, h => by
    obtain ⟨v, vs1, d, ds1, p, q, rfl, rfl, rfl, h1, h2⟩ := trodAll_cons h
    simp [trod_len ts vs1 ds1 q h2]

/-- A LAW: WHATEVER THE INPUT: true, and what was there lies as it lay. -/
theorem lifted_law {C : Checked} {os : Os} {f : FuncId} {fn : Func} {s : ChangeSpec} {tb : TypeId} {k : Nat} {con : Con}
    (own : ownKnob C.prog.godebug = none) (started : os.Started) (noInit : C.prog.inits.idxOf? f = none) (hfn : C.prog.funcs[f]? = some fn)
    (witness : ∃ (w : World) (tape : Tape) (i : Input), w.os = os ∧ (w.forCall tape i).Shaped C.prog ∧ i.vars = [] ∧ Input.okWide C.prog (w.forCall tape i) .any w.heap.size f i ∧
      s.pre6 enc C.prog fn [] false (w.forCall tape i).memory i.args ∧ ({} : Assume).holds C.prog (lone (Frame.enter C.prog f i.args .normal) [] (w.forCall tape i)))
    (hvars : s.vars = []) (hspec : ∀ ds : List (DataW H), ds.length = fn.params.size → s.fn H ds = { results := [.lit (.bool true)], args := ds })
    (hres : fn.resultTypes = #[tb]) (hb : C.prog.underlying tb = some .bool) (hplain : fn.params.toList.all (plainT C.prog k) = true) (hl : laidOutB C.prog = true)
    (hread : fn.params.toList.all (fun t => C.prog.readableRec t && decide (t < C.prog.types.size)) = true)
    (hcon : Has C.prog f con) (hce : con.eff = none) (hcr : ∀ x, con.res x = .v (.bool true))
    (hargs : ∀ vss : List (List V), All2 (fun t vs => Typ C.prog k t vs) fn.params.toList vss → ∃ x, con.enc x = ((fn.params.toList.zip vss).map fun (t, vs) => typeV C.prog t vs) ∧ con.ok x)
    (hcf : con.frs = .keep := by rfl) :
    ReturnsInHanded {} C os f .any (s.pre6 enc C.prog fn [] false) (s.post enc C.prog fn false true false false) := by
  refine returnsInHanded_of_change_sized own started noInit hfn witness ?_
  intro W base args ds gs before hval hW _ hw _
  have hW' := hW
  obtain ⟨p, q, hA, hV, rfl, hfz, hnd⟩ := hW
  rw [hvars] at hV
  obtain ⟨rfl, rfl⟩ : gs = [] ∧ q = [] := by
    cases gs with
    | nil => exact ⟨rfl, hV⟩
    | cons _ _ => exact hV.elim
  have hlen := trod_len _ _ _ _ hA
  have hw1 : (DataW.weightsEach C.prog fn.params.toList ds).all (· ≤ reachBytes) = true := by
    have e : s.plain.varTypes C.prog = [] := by simp [ChangeSpec.plain, DataSpec.varTypes, hvars]
    rw [e, List.append_nil, List.append_nil] at hw
    exact hw
  obtain ⟨vss, a1, a2⟩ := args_typ fn.params.toList args.toList ds p hplain hA (fun j t v e1 e2 => hval j t v (by rw [← Array.getElem?_toList]; exact e1) (by rw [← Array.getElem?_toList]; exact e2)) hw1
  obtain ⟨x, henc, hok⟩ := hargs vss a1
  have hs : SoundV C.prog f con := by have := hcon.1; simpa only [Sound, hce, hcf] using this
  have hcall := hs x (fun g _ => g < W.heap.size) W args.toList (fun g j e => e) (by rw [henc]; exact a2) hok
  rw [show args.toList.toArray = args by simp] at hcall
  refine hcall.mono ?_
  rintro e W' ⟨v, F', rfl, hbl, _, _, _, hr⟩
  rw [hcr] at hr
  have hr : v = .bool true := hr
  subst hr
  have hds : ds.length = fn.params.size := by rw [hlen]; simp
  have hspec' := hspec ds hds
  have hlt : ∀ pl ∈ p ++ [], pl.block < W.heap.size := fun pl hp => hW'.lt pl hp
  have hA' : ∀ sp : Nat → Bool, (∀ pl ∈ p ++ [], sp pl.block = true) → DataW.TrodAll enc C.prog W' 0 sp true fn.params.toList args.toList ds p :=
    fun sp hsp => stays_all hl hbl fn.params.toList args.toList ds p hread hA (fun pl hp => hlt pl (by simp [hp])) (fun pl hp => hsp pl (by simp [hp]))
  have hres' : ∀ (b : Nat) (sp : Nat → Bool) (hd : Bool), DataW.TrodAll enc C.prog W' b sp hd fn.resultTypes.toList ((Value.bool true).resultList fn.resultTypes.size) [.lit (.bool true)] [] := by
    intro b sp hd
    rw [hres]
    exact trodAll_cons_mk (shut_bool hb _) trodAll_mk0
  refine ⟨_, rfl, ds, [], p ++ [], [], p, [], hW', ?_, ?_, ?_, ?_, fun ha => by cases ha⟩
  · rw [List.append_nil, hspec']
    exact hres' _ _ _
  · rw [List.append_nil, hspec']
    exact hA' _ fun pl hp => by simpa using hlt pl hp
  · rw [hvars, List.append_nil, hspec']
    rfl
  · exact hbl.frame _
end
end Go.Ev
/- A law, by what it is over data. -/
set_option linter.unusedVariables false
namespace Go.Ev
/-- A function that is true where its data say so. -/
def conL {α : Type} (F : α → Option Bool) (enc : α → List V) : Con := { α := α, enc := enc, ok := fun x => F x = some true, res := fun _ => .v (.bool true) }
theorem has_law {P : Program} {f : FuncId} {α : Type} {F : α → Option Bool} {enc : α → List V} {er : Bool → V} (h : Has P f (conF F enc er)) (he : er true = .v (.bool true)) : Has P f (conL F enc) := by
  refine ⟨?_, h.2⟩
  intro x F' w vs hF hv hok
  have := h.1 (x, true) F' w vs hF hv hok
  rw [show (conF F enc er).res (x, true) = .v (.bool true) from he] at this
  exact this
end Go.Ev
/- What is wanted of loops, lists and numbers, over data. -/
set_option linter.unusedVariables false
set_option linter.unusedSimpArgs false
namespace Go.Ev

theorem loop_run {S E : Type} {step : S → Option (S ⊕ E)} (st : Nat → S) (n : Nat) {e : E} (h : ∀ k, k < n → step (st k) = some (.inl (st (k + 1)))) (he : step (st n) = some (.inr e)) : loopC step (st 0) = some e := by
  have key : ∀ j, j ≤ n → loopC step (st (n - j)) = some e := by
    intro j
    induction j with
    | zero => intro _; rw [Nat.sub_zero, loopC_eq, he]
    | succ j ih =>
      intro hj
      rw [loopC_eq, h _ (by omega), show n - (j + 1) + 1 = n - j by omega]
      exact ih (by omega)
  have := key n (Nat.le_refl _)
  rwa [Nat.sub_self] at this

/-- Rounds over a list, until one fails. -/
theorem loop_list {α S E : Type} {step : S → Option (S ⊕ E)} (l : List α) (st : Nat → S) (q : α → Bool) {e f : E} (h : ∀ k (hk : k < l.length), step (st k) = some (if q l[k] then .inl (st (k + 1)) else .inr f)) (he : step (st l.length) = some (.inr e)) :
    loopC step (st 0) = some (if l.all q then e else f) := by
  have key : ∀ j, j ≤ l.length → loopC step (st (l.length - j)) = some (if (l.drop (l.length - j)).all q then e else f) := by
    intro j
    induction j with
    | zero => intro _; rw [Nat.sub_zero, loopC_eq, he]; simp
    | succ j ih =>
      intro hj
      have hlt : l.length - (j + 1) < l.length := by omega
      rw [loopC_eq, h _ hlt, List.drop_eq_getElem_cons hlt, show l.length - (j + 1) + 1 = l.length - j by omega]
      cases hq : q l[l.length - (j + 1)] with
      | true => simp only [if_true, List.all_cons, hq, Bool.true_and]; exact ih (by omega)
      | false => simp [hq]
  have := key l.length (Nat.le_refl _)
  rwa [Nat.sub_self, List.drop_zero] at this

/-- Rounds over a list that gather something, until one fails. -/
def gath {α σ E : Type} (g : σ → α → σ ⊕ E) (o : σ ⊕ E) (a : α) : σ ⊕ E := match o with
  | .inl s => g s a
  | .inr f => .inr f
theorem gath_inr {α σ E : Type} (g : σ → α → σ ⊕ E) (m : List α) (f : E) : m.foldl (gath g) (.inr f) = .inr f := by
  induction m with
  | nil => rfl
  | cons a m ih => simpa [gath] using ih
theorem loop_gather {α σ S E : Type} {step : S → Option (S ⊕ E)} (l : List α) (st : Nat → σ → S) (g : σ → α → σ ⊕ E) (e : σ → E) (h : ∀ k s (hk : k < l.length), step (st k s) = some (match g s l[k] with | .inl s' => .inl (st (k + 1) s') | .inr f => .inr f)) (he : ∀ s, step (st l.length s) = some (.inr (e s))) (s : σ) :
    loopC step (st 0 s) = some (match l.foldl (gath g) (.inl s) with | .inl s => e s | .inr f => f) := by
  have key : ∀ j, j ≤ l.length → ∀ s, loopC step (st (l.length - j) s) = some (match (l.drop (l.length - j)).foldl (gath g) (.inl s) with | .inl s => e s | .inr f => f) := by
    intro j
    induction j with
    | zero => intro _ s; rw [Nat.sub_zero, loopC_eq, he]; simp
    | succ j ih =>
      intro hj s
      have hlt : l.length - (j + 1) < l.length := by omega
      rw [loopC_eq, h _ _ hlt, List.drop_eq_getElem_cons hlt, show l.length - (j + 1) + 1 = l.length - j by omega, List.foldl_cons]
      simp only [gath]
      cases hg : g s l[l.length - (j + 1)] with
      | inl s' => simp only; exact ih (by omega) s'
      | inr f => simp only [gath_inr]
  have := key l.length (Nat.le_refl _) s
  rwa [Nat.sub_self, List.drop_zero] at this

theorem idx?_nat {α : Type} {l : List α} {k : Nat} (h : k < l.length) : idx? l (k : Int) = some l[k] := by
  unfold idx?
  rw [if_pos (by omega)]
  simp [h]
theorem wr_in {n : Int} (h : -9223372036854775808 ≤ n) (h' : n ≤ 9223372036854775807) : wr n = n := (wrap_ok h h').symm
theorem wr_nat {k : Nat} (h : k < 9223372036854775807) : wr ((k : Int) + 1) = ((k + 1 : Nat) : Int) := (wrap_succ h).symm

/-- Is a number from a to b? -/
def inB (n a b : Int) : Bool := decide (a ≤ n) && decide (n ≤ b)
theorem inB_iff {n a b : Int} : inB n a b = true ↔ a ≤ n ∧ n ≤ b := by simp [inB]
theorem app_nil {α : Type} {m : List α} {n : Nat} (h : m.length * n ≤ 140737488355328) (hn : 0 < n) : app? [] m n = some m := by
  unfold app?
  rw [if_pos (by simpa using ⟨h, hn⟩)]; rfl
theorem app_of {α : Type} {l m : List α} {n : Nat} (h : (l.length + m.length) * n ≤ 140737488355328) (hn : 0 < n) : app? l m n = some (l ++ m) := if_pos ⟨h, hn⟩
theorem nz_of {b : Int} (h : b ≠ 0) : nz? b = some () := if_pos h

/-- Neighbours in a list. -/
def pairs {α : Type} (l : List α) : List (α × α) := l.zip l.tail
theorem pairs_length {α : Type} (l : List α) : (pairs l).length = l.length - 1 := by simp [pairs]
theorem pairs_get {α : Type} (l : List α) (k : Nat) (h : k < (pairs l).length) : (pairs l)[k] = (l[k]'(by rw [pairs_length] at h; omega), l[k + 1]'(by rw [pairs_length] at h; omega)) := by
  simp [pairs]
end Go.Ev
/- The law's known(), over typed data. -/
namespace Go.Ev
def F_thalweglaw03_known : Unit → Option Bool := fun _ => some true
end Go.Ev
/- What the functions do over typed data. -/
set_option linter.unusedVariables false
set_option linter.unusedSimpArgs false
namespace Go.Ev
set_option maxHeartbeats 8000000
set_option maxRecDepth 100000
structure TBounds where
  Low : Int
  High : Int
  deriving DecidableEq
def eTBounds (x : TBounds) : List V := [(V.v (.int .i64 (x.Low))), (V.v (.int .i64 (x.High)))]
structure TRun where
  From : Int
  To : Int
  Speed : TBounds
  Wait : TBounds
  deriving DecidableEq
def eTRun (x : TRun) : List V := [(V.v (.int .i64 (x.From))), (V.v (.int .i64 (x.To))), (V.v (.int .i64 (x.Speed.Low))), (V.v (.int .i64 (x.Speed.High))), (V.v (.int .i64 (x.Wait.Low))), (V.v (.int .i64 (x.Wait.High)))]
structure TVoyage where
  Start : TBounds
  Runs : List TRun
  Length : Int
  Width : Int
  deriving DecidableEq
def eTVoyage (x : TVoyage) : List V := [(V.v (.int .i64 (x.Start.Low))), (V.v (.int .i64 (x.Start.High))), (V.sl (recs eTRun (x.Runs)) (x.Runs).length), (V.v (.int .i64 (x.Length))), (V.v (.int .i64 (x.Width)))]

noncomputable def F_thalweglaw03_copied : (TVoyage) → Option (TVoyage) := fun x => match x with
  | (a0) =>
    (app? (([] : List TRun)) (a0.Runs) 48).bind fun l1 =>
    some (⟨a0.Start, l1, a0.Length, a0.Width⟩ : TVoyage)

noncomputable def L_numbers_Every_int_1 (a1 : (Int → Option Bool)) (a0 : List Int) (g : FuncId) (caps : List V) : LoopD (Int) (Unit ⊕ Bool) (Unit) where
  step := fun s => match s with
    | s1 =>
      bif (decide (s1 < ((a0).length : Int))) then
        (idx? (a0) (s1)).bind fun x4 =>
        (a1 (x4)).bind fun y5 =>
        bif (!y5) then
          some (.inr (.inr false))
        else
          some (.inl (wr (s1 + 1)))
      else
        some (.inr (.inl ()))
  at_ := fun s gh => match s, gh with
    | s1, () => ⟨[(1, (V.fn g caps)), (4, (V.v (.bool (false)))), (7, (V.sl (recs (eI .i64) (a0)) (a0).length)), (8, (V.v (.int .i64 (((a0).length : Int))))), (9, (V.v (.int .i64 (s1))))], [], 0⟩
noncomputable def F_numbers_Every_int : ((List Int) × ((Int → Option Bool)) × FuncId × (List V)) → Option (Bool) := fun x => match x with
  | (a0, a1, g, caps) =>
    (loopC (L_numbers_Every_int_1 a1 a0 g caps).step 0).bind fun e => match e with
    | (.inl ()) =>
      some true
    | (.inr r6) =>
      some r6

noncomputable def F_numbers_Within_1 : (Int × Int × Int) → Option (Bool) := fun x => match x with
  | (a0, c0, c1) =>
    bif (decide (c0 ≤ a0)) then
      some (decide (a0 ≤ c1))
    else
      some false

noncomputable def F_numbers_Within : (Int × Int × (List Int)) → Option (Bool) := fun x => match x with
  | (a0, a1, a2) =>
    (F_numbers_Every_int (a2, (fun q => F_numbers_Within_1 (q, a0, a1)), 63, [(V.fptr [(V.v (.int .i64 (a0)))]), (V.fptr [(V.v (.int .i64 (a1)))])])).bind fun y1 =>
    some y1

noncomputable def F_numbers_Valid : (TBounds × Int × Int) → Option (Bool) := fun x => match x with
  | (a0, a1, a2) =>
    bif (decide (a0.Low ≤ a0.High)) then
      (F_numbers_Within (a1, a2, ([a0.Low, a0.High] : List Int))).bind fun y1 =>
      some y1
    else
      some false

noncomputable def L_numbers_Every_Run_1 (a1 : (TRun → Option Bool)) (a0 : List TRun) (g : FuncId) (caps : List V) : LoopD (Int) (Unit ⊕ Bool) (Unit) where
  step := fun s => match s with
    | s1 =>
      bif (decide (s1 < ((a0).length : Int))) then
        (idx? (a0) (s1)).bind fun x4 =>
        (a1 (x4)).bind fun y5 =>
        bif (!y5) then
          some (.inr (.inr false))
        else
          some (.inl (wr (s1 + 1)))
      else
        some (.inr (.inl ()))
  at_ := fun s gh => match s, gh with
    | s1, () => ⟨[(1, (V.fn g caps)), (4, (V.v (.bool (false)))), (7, (V.sl (recs eTRun (a0)) (a0).length)), (8, (V.v (.int .i64 (((a0).length : Int))))), (9, (V.v (.int .i64 (s1))))], [], 0⟩
noncomputable def F_numbers_Every_Run : ((List TRun) × ((TRun → Option Bool)) × FuncId × (List V)) → Option (Bool) := fun x => match x with
  | (a0, a1, g, caps) =>
    (loopC (L_numbers_Every_Run_1 a1 a0 g caps).step 0).bind fun e => match e with
    | (.inl ()) =>
      some true
    | (.inr r6) =>
      some r6

noncomputable def F_tow_validRun : (TRun) → Option (Bool) := fun x => match x with
  | (a0) =>
    (F_numbers_Within (0, 100000, ([a0.From, a0.To] : List Int))).bind fun y1 =>
    bif y1 then
      bif (a0.From != a0.To) then
        (F_numbers_Valid (a0.Speed, 1, 400)).bind fun y2 =>
        bif y2 then
          (F_numbers_Valid (a0.Wait, 0, 5000)).bind fun y3 =>
          some y3
        else
          some false
      else
        some false
    else
      some false

noncomputable def F_tow_down : (TRun) → Option (Bool) := fun x => match x with
  | (a0) =>
    some (decide (a0.From < a0.To))

noncomputable def L_tow_joined_1 (a0 : List TRun) : LoopD (Int) (Unit ⊕ Bool) (Unit) where
  step := fun s => match s with
    | s1 =>
      bif (decide (s1 < ((a0).length : Int))) then
        (idx? (a0) (s1)).bind fun x8 =>
        (idx? (a0) ((wr (s1 - 1)))).bind fun x9 =>
        bif (x8.From != x9.To) then
          some (.inr (.inr false))
        else
          (idx? (a0) (s1)).bind fun x10 =>
          (F_tow_down (x10)).bind fun y11 =>
          (idx? (a0) ((wr (s1 - 1)))).bind fun x12 =>
          (F_tow_down (x12)).bind fun y13 =>
          bif (!(y11 == y13)) then
            some (.inr (.inr false))
          else
            some (.inl (wr (s1 + 1)))
      else
        some (.inr (.inl ()))
  at_ := fun s gh => match s, gh with
    | s1, () => ⟨[(0, (V.sl (recs eTRun (a0)) (a0).length)), (2, (V.v (.bool (false)))), (3, (V.v (.int .i64 (s1))))], [], 0⟩
noncomputable def F_tow_joined : ((List TRun)) → Option (Bool) := fun x => match x with
  | (a0) =>
    (loopC (L_tow_joined_1 a0).step 1).bind fun e => match e with
    | (.inl ()) =>
      some true
    | (.inr r14) =>
      some r14

noncomputable def F_tow_Check : (TVoyage) → Option (Int) := fun x => match x with
  | (a0) =>
    (F_numbers_Valid (a0.Start, 0, 1000000)).bind fun y1 =>
    bif (!y1) then
      some 2
    else
      (F_numbers_Within (1, 20, ([((a0.Runs).length : Int)] : List Int))).bind fun y2 =>
      bif (!y2) then
        some 2
      else
        (F_numbers_Within (1, 3000, ([a0.Length] : List Int))).bind fun y3 =>
        bif (!y3) then
          some 2
        else
          (F_numbers_Within (1, 200, ([a0.Width] : List Int))).bind fun y4 =>
          bif (!y4) then
            some 2
          else
            (F_numbers_Every_Run (a0.Runs, (fun q => F_tow_validRun (q)), 80, [])).bind fun y5 =>
            bif (!y5) then
              some 2
            else
              (F_tow_joined (a0.Runs)).bind fun y6 =>
              bif (!y6) then
                some 2
              else
                some 0

noncomputable def F_thalweglaw03_sound : (TVoyage) → Option (Bool) := fun x => match x with
  | (a0) =>
    bif (decide (((a0.Runs).length : Int) ≥ 1)) then
      bif (decide (((a0.Runs).length : Int) ≤ 25)) then
        (F_thalweglaw03_copied (a0)).bind fun y1 =>
        (F_tow_Check (y1)).bind fun y2 =>
        some (y2 == 0)
      else
        some false
    else
      some false

noncomputable def F_tow_ends : (TVoyage) → Option (Int × Int) := fun x => match x with
  | (a0) =>
    (idx? (a0.Runs) (0)).bind fun x1 =>
    (idx? (a0.Runs) ((wr (((a0.Runs).length : Int) - 1)))).bind fun x2 =>
    some (x1.From, x2.To)

noncomputable def F_tow_covers : (Int × Int × (List Int)) → Option (Bool) := fun x => match x with
  | (a0, a1, a2) =>
    (F_numbers_Within ((minmax false a0 a1), (minmax true a0 a1), a2)).bind fun y1 =>
    some y1

noncomputable def F_tow_onWay : (TVoyage × (List Int)) → Option (Bool) := fun x => match x with
  | (a0, a1) =>
    (F_tow_ends (a0)).bind fun y1 =>
    (F_tow_covers (y1.1, y1.2, a1)).bind fun y2 =>
    some y2

noncomputable def L_numbers_Sum_1 (a0 : List TBounds) : LoopD (Int × Int × Int) ((Int × Int)) (Unit) where
  step := fun s => match s with
    | (s1, s2, s3) =>
      bif (decide (s1 < ((a0).length : Int))) then
        (idx? (a0) (s1)).bind fun x5 =>
        some (.inl ((wr (s1 + 1)), (wr (s2 + x5.Low)), (wr (s3 + x5.High))))
      else
        some (.inr (s2, s3))
  at_ := fun s gh => match s, gh with
    | (s1, s2, s3), () => ⟨[(2, (V.box 0 0)), (3, (V.box 2 0)), (7, (V.sl (recs eTBounds (a0)) (a0).length)), (8, (V.v (.int .i64 (((a0).length : Int))))), (9, (V.v (.int .i64 (s1))))], [(0, Bx.var [(V.v (.int .i64 (0))), (V.v (.int .i64 (0)))] false), (2, Bx.var [(V.v (.int .i64 (s2))), (V.v (.int .i64 (s3)))] false)], 3⟩
noncomputable def F_numbers_Sum : ((List TBounds)) → Option (TBounds) := fun x => match x with
  | (a0) =>
    (loopC (L_numbers_Sum_1 a0).step (0, 0, 0)).bind fun e => match e with
    | (s6, s7) =>
      some (⟨s6, s7⟩ : TBounds)

noncomputable def F_numbers_Down : (Int × Int) → Option (Int) := fun x => match x with
  | (a0, a1) =>
    (nz? (a1)).bind fun _ =>
    bif (decide ((Int.tmod a0 a1) < 0)) then
      (nz? (a1)).bind fun _ =>
      some (wr ((wr (Int.tdiv a0 a1)) - 1))
    else
      (nz? (a1)).bind fun _ =>
      some (wr (Int.tdiv a0 a1))

noncomputable def F_numbers_Up : (Int × Int) → Option (Int) := fun x => match x with
  | (a0, a1) =>
    (F_numbers_Down ((wr (0 - a0)), a1)).bind fun y1 =>
    some (wr (0 - y1))

noncomputable def F_tow_until : (TRun × Int) → Option (TBounds) := fun x => match x with
  | (a0, a1) =>
    (F_numbers_Up ((wr (60 * (minmax true (wr (a1 - a0.From)) (wr (a0.From - a1))))), a0.Speed.High)).bind fun y1 =>
    (F_numbers_Up ((wr (60 * (minmax true (wr (a1 - a0.From)) (wr (a0.From - a1))))), a0.Speed.Low)).bind fun y2 =>
    some (⟨(wr (a0.Wait.Low + y1)), (wr (a0.Wait.High + y2))⟩ : TBounds)

noncomputable def L_tow_arrive_1 (a1 : Int) (a0 : TVoyage) : LoopD (Int × Int × Int × Int) ((Int × Int)) (Unit) where
  step := fun s => match s with
    | (s2, s3, s4, s5) =>
      bif (decide (s3 < ((a0.Runs).length : Int))) then
        (idx? (a0.Runs) (s3)).bind fun x12 =>
        bif (s2 == a1) then
          some (.inr (s4, s5))
        else
          (F_tow_covers (x12.From, x12.To, ([a1] : List Int))).bind fun y13 =>
          bif y13 then
            (F_tow_until (x12, a1)).bind fun y14 =>
            (F_numbers_Sum (([(⟨s4, s5⟩ : TBounds), y14] : List TBounds))).bind fun y15 =>
            some (.inl (a1, (wr (s3 + 1)), y15.Low, y15.High))
          else
            (F_tow_until (x12, x12.To)).bind fun y16 =>
            (F_numbers_Sum (([(⟨s4, s5⟩ : TBounds), y16] : List TBounds))).bind fun y17 =>
            some (.inl (x12.To, (wr (s3 + 1)), y17.Low, y17.High))
      else
        some (.inr (s4, s5))
  at_ := fun s gh => match s, gh with
    | (s2, s3, s4, s5), () => ⟨[(1, (V.v (.int .i64 (a1)))), (4, (V.box 1 0)), (5, (V.box 9 0)), (6, (V.v (.int .i64 (s2)))), (17, (V.sl (recs eTRun (a0.Runs)) (a0.Runs).length)), (18, (V.v (.int .i64 (((a0.Runs).length : Int))))), (19, (V.v (.int .i64 (s3))))], [(1, Bx.var [(V.v (.int .i64 (0))), (V.v (.int .i64 (0)))] false), (9, Bx.var [(V.v (.int .i64 (s4))), (V.v (.int .i64 (s5)))] false)], 10⟩
noncomputable def F_tow_arrive : (TVoyage × Int) → Option (TBounds) := fun x => match x with
  | (a0, a1) =>
    (idx? (a0.Runs) (0)).bind fun x1 =>
    (loopC (L_tow_arrive_1 a1 a0).step (x1.From, 0, a0.Start.Low, a0.Start.High)).bind fun e => match e with
    | (s18, s19) =>
      some (⟨s18, s19⟩ : TBounds)

noncomputable def F_tow_Arrive : (TVoyage × Int) → Option (TBounds × Int) := fun x => match x with
  | (a0, a1) =>
    (F_tow_Check (a0)).bind fun y1 =>
    bif (y1 != 0) then
      some ((⟨0, 0⟩ : TBounds), y1)
    else
      (F_tow_onWay (a0, ([a1] : List Int))).bind fun y2 =>
      bif (!y2) then
        some ((⟨0, 0⟩ : TBounds), 7)
      else
        (F_tow_arrive (a0, a1)).bind fun y3 =>
        some (y3, 0)

noncomputable def F_thalweglaw03_exact : (Int) → Option (TBounds) := fun x => match x with
  | (a0) =>
    some (⟨a0, a0⟩ : TBounds)

noncomputable def L_thalweglaw03_TowEnds_1 (x3 : TRun) (x4 : TRun) (a1 : Int) (y6 : TBounds × Int) (a0 : TVoyage) (y9 : TBounds) (y7 : TVoyage) (y10 : TBounds) (y8 : TVoyage) : LoopD (Int × (List TRun) × (List TRun)) (((List TRun) × (List TRun))) (Unit) where
  step := fun s => match s with
    | (s11, s12, s13) =>
      bif (decide (s11 < ((a0.Runs).length : Int))) then
        (idx? (a0.Runs) (s11)).bind fun x31 =>
        (F_thalweglaw03_exact (x31.Wait.Low)).bind fun y32 =>
        (F_thalweglaw03_exact (x31.Speed.High)).bind fun y33 =>
        (idx? (s12) (s11)).bind fun x34 =>
        (set? (s12) (s11) ((⟨x34.From, x34.To, x34.Speed, y32⟩ : TRun))).bind fun l36 =>
        (idx? (l36) (s11)).bind fun x37 =>
        (set? (l36) (s11) ((⟨x37.From, x37.To, y33, x37.Wait⟩ : TRun))).bind fun l39 =>
        (F_thalweglaw03_exact (x31.Wait.High)).bind fun y40 =>
        (F_thalweglaw03_exact (x31.Speed.Low)).bind fun y41 =>
        (idx? (s13) (s11)).bind fun x42 =>
        (set? (s13) (s11) ((⟨x42.From, x42.To, x42.Speed, y40⟩ : TRun))).bind fun l44 =>
        (idx? (l44) (s11)).bind fun x45 =>
        (set? (l44) (s11) ((⟨x45.From, x45.To, y41, x45.Wait⟩ : TRun))).bind fun l47 =>
        some (.inl ((wr (s11 + 1)), l39, l47))
      else
        some (.inr (s12, s13))
  at_ := fun s gh => match s, gh with
    | (s11, s12, s13), () => ⟨[(2, (V.box 0 0)), (4, (V.v (.bool (false)))), (5, (V.v (.int .i64 (x3.From)))), (6, (V.v (.int .i64 (x4.To)))), (8, (V.v (.int .i64 ((wr (Int.tdiv (wr (x4.To - x3.From)) (minmax true (wr (x3.From - x4.To)) (wr (x4.To - x3.From))))))))), (9, (V.v (.int .i64 ((wr (x3.From + (wr ((wr (Int.tdiv (wr (x4.To - x3.From)) (minmax true (wr (x3.From - x4.To)) (wr (x4.To - x3.From))))) * (Int.tmod (wr (a1)) (wr ((minmax true (wr (x3.From - x4.To)) (wr (x4.To - x3.From))) + 1))))))))))), (10, (V.box 54 0)), (11, (V.v (.int .i64 (y6.2)))), (12, (V.box 61 0)), (13, (V.box 62 0)), (14, (V.v (.int .i64 (s11))))], [(0, Bx.var [(V.v (.int .i64 (a0.Start.Low))), (V.v (.int .i64 (a0.Start.High))), (V.sl (recs eTRun (a0.Runs)) (a0.Runs).length), (V.v (.int .i64 (a0.Length))), (V.v (.int .i64 (a0.Width)))] false), (54, Bx.var [(V.v (.int .i64 (y6.1.Low))), (V.v (.int .i64 (y6.1.High)))] false), (58, Bx.row 66 6 (recs eTRun (s12)) 0), (60, Bx.row 66 6 (recs eTRun (s13)) 0), (61, Bx.var [(V.v (.int .i64 (y9.Low))), (V.v (.int .i64 (y9.High))), (V.osl 58 (s12).length), (V.v (.int .i64 (y7.Length))), (V.v (.int .i64 (y7.Width)))] false), (62, Bx.var [(V.v (.int .i64 (y10.Low))), (V.v (.int .i64 (y10.High))), (V.osl 60 (s13).length), (V.v (.int .i64 (y8.Length))), (V.v (.int .i64 (y8.Width)))] false)], 63⟩
noncomputable def F_thalweglaw03_TowEnds : (TVoyage × Int) → Option (Bool) := fun x => match x with
  | (a0, a1) =>
    (F_thalweglaw03_sound (a0)).bind fun y1 =>
    bif (!y1) then
      (F_thalweglaw03_known ()).bind fun y2 =>
      some y2
    else
      (idx? (a0.Runs) (0)).bind fun x3 =>
      (idx? (a0.Runs) ((wr (((a0.Runs).length : Int) - 1)))).bind fun x4 =>
      bif (decide ((minmax true (wr (x3.From - x4.To)) (wr (x4.To - x3.From))) < 1)) then
        some false
      else
        (nz? ((minmax true (wr (x3.From - x4.To)) (wr (x4.To - x3.From))))).bind fun _ =>
        (nz? ((wr ((minmax true (wr (x3.From - x4.To)) (wr (x4.To - x3.From))) + 1)))).bind fun _ =>
        (F_thalweglaw03_copied (a0)).bind fun y5 =>
        (F_tow_Arrive (y5, (wr (x3.From + (wr ((wr (Int.tdiv (wr (x4.To - x3.From)) (minmax true (wr (x3.From - x4.To)) (wr (x4.To - x3.From))))) * (Int.tmod (wr (a1)) (wr ((minmax true (wr (x3.From - x4.To)) (wr (x4.To - x3.From))) + 1))))))))).bind fun y6 =>
        (F_thalweglaw03_copied (a0)).bind fun y7 =>
        (F_thalweglaw03_copied (a0)).bind fun y8 =>
        (F_thalweglaw03_exact (a0.Start.Low)).bind fun y9 =>
        (F_thalweglaw03_exact (a0.Start.High)).bind fun y10 =>
        (loopC (L_thalweglaw03_TowEnds_1 x3 x4 a1 y6 a0 y9 y7 y10 y8).step (0, y7.Runs, y8.Runs)).bind fun e => match e with
        | (s48, s49) =>
          (F_tow_Arrive ((⟨y9, s48, y7.Length, y7.Width⟩ : TVoyage), (wr (x3.From + (wr ((wr (Int.tdiv (wr (x4.To - x3.From)) (minmax true (wr (x3.From - x4.To)) (wr (x4.To - x3.From))))) * (Int.tmod (wr (a1)) (wr ((minmax true (wr (x3.From - x4.To)) (wr (x4.To - x3.From))) + 1))))))))).bind fun y50 =>
          (F_tow_Arrive ((⟨y10, s49, y8.Length, y8.Width⟩ : TVoyage), (wr (x3.From + (wr ((wr (Int.tdiv (wr (x4.To - x3.From)) (minmax true (wr (x3.From - x4.To)) (wr (x4.To - x3.From))))) * (Int.tmod (wr (a1)) (wr ((minmax true (wr (x3.From - x4.To)) (wr (x4.To - x3.From))) + 1))))))))).bind fun y51 =>
          bif (y6.2 != 0) then
            some false
          else
            bif (y50.2 != 0) then
              some false
            else
              bif (y51.2 != 0) then
                some false
              else
                (F_thalweglaw03_exact (y6.1.Low)).bind fun y52 =>
                bif (!(y50.1.Low == y52.Low && (y50.1.High == y52.High && true))) then
                  some false
                else
                  (F_thalweglaw03_exact (y6.1.High)).bind fun y53 =>
                  bif (!(y51.1.Low == y53.Low && (y51.1.High == y53.High && true))) then
                    some false
                  else
                    bif (decide (y6.1.Low > y6.1.High)) then
                      some false
                    else
                      bif (decide (y6.1.Low < a0.Start.Low)) then
                        some false
                      else
                        bif ((wr (x3.From + (wr ((wr (Int.tdiv (wr (x4.To - x3.From)) (minmax true (wr (x3.From - x4.To)) (wr (x4.To - x3.From))))) * (Int.tmod (wr (a1)) (wr ((minmax true (wr (x3.From - x4.To)) (wr (x4.To - x3.From))) + 1))))))) != x4.To) then
                          (F_thalweglaw03_copied (a0)).bind fun y54 =>
                          (F_tow_Arrive (y54, (wr ((wr (x3.From + (wr ((wr (Int.tdiv (wr (x4.To - x3.From)) (minmax true (wr (x3.From - x4.To)) (wr (x4.To - x3.From))))) * (Int.tmod (wr (a1)) (wr ((minmax true (wr (x3.From - x4.To)) (wr (x4.To - x3.From))) + 1))))))) + (wr (Int.tdiv (wr (x4.To - x3.From)) (minmax true (wr (x3.From - x4.To)) (wr (x4.To - x3.From))))))))).bind fun y55 =>
                          bif (y55.2 != 0) then
                            some false
                          else
                            bif (decide (y55.1.Low < y6.1.Low)) then
                              some false
                            else
                              bif (decide (y55.1.High < y6.1.High)) then
                                some false
                              else
                                (F_thalweglaw03_copied (a0)).bind fun y56 =>
                                (F_tow_Arrive (y56, (wr (x3.From - (wr (Int.tdiv (wr (x4.To - x3.From)) (minmax true (wr (x3.From - x4.To)) (wr (x4.To - x3.From))))))))).bind fun y57 =>
                                (F_thalweglaw03_copied (a0)).bind fun y58 =>
                                (F_tow_Arrive (y58, (wr (x4.To + (wr (Int.tdiv (wr (x4.To - x3.From)) (minmax true (wr (x3.From - x4.To)) (wr (x4.To - x3.From))))))))).bind fun y59 =>
                                bif (y57.2 == 7) then
                                  bif (y59.2 == y57.2) then
                                    bif (y57.1.Low == 0 && (y57.1.High == 0 && true)) then
                                      bif (y59.1.Low == y57.1.Low && (y59.1.High == y57.1.High && true)) then
                                        (F_thalweglaw03_known ()).bind fun y60 =>
                                        some y60
                                      else
                                        some false
                                    else
                                      some false
                                  else
                                    some false
                                else
                                  some false
                        else
                          (F_thalweglaw03_copied (a0)).bind fun y61 =>
                          (F_tow_Arrive (y61, (wr (x3.From - (wr (Int.tdiv (wr (x4.To - x3.From)) (minmax true (wr (x3.From - x4.To)) (wr (x4.To - x3.From))))))))).bind fun y62 =>
                          (F_thalweglaw03_copied (a0)).bind fun y63 =>
                          (F_tow_Arrive (y63, (wr (x4.To + (wr (Int.tdiv (wr (x4.To - x3.From)) (minmax true (wr (x3.From - x4.To)) (wr (x4.To - x3.From))))))))).bind fun y64 =>
                          bif (y62.2 == 7) then
                            bif (y64.2 == y62.2) then
                              bif (y62.1.Low == 0 && (y62.1.High == 0 && true)) then
                                bif (y64.1.Low == y62.1.Low && (y64.1.High == y62.1.High && true)) then
                                  (F_thalweglaw03_known ()).bind fun y65 =>
                                  some y65
                                else
                                  some false
                              else
                                some false
                            else
                              some false
                          else
                            some false
end Go.Ev
/- What the arguments of the law are. -/
set_option linter.unusedVariables false
set_option linter.unusedSimpArgs false
namespace Go.Ev
open Go.Proofs
set_option maxRecDepth 100000
theorem typ_list {α : Type} {enc : α → List V} {k : α → Prop} {n : Nat} {e : TypeId} (h : ∀ vs, Typ Try.prog n e vs → ∃ a, vs = enc a ∧ k a) : ∀ (ls : List (List V)), (∀ l ∈ ls, Typ Try.prog n e l) → ∃ l : List α, ls.flatten = recs enc l ∧ ls.length = l.length ∧ ∀ x ∈ l, k x
  | [], _ => ⟨[], rfl, rfl, fun x hx => by cases hx⟩
  | x :: ls, hl => by
    obtain ⟨a, rfl, ha⟩ := h x (hl x (by simp))
    obtain ⟨l, h1, h2, h3⟩ := typ_list h ls fun y hy => hl y (by simp [hy])
    refine ⟨a :: l, by simp [recs, List.flatten_cons, h1], by simp [h2], ?_⟩
    intro x hx
    cases hx with
    | head => exact ha
    | tail _ hx => exact h3 x hx
def kIi64 (i : Int) : Prop := IntKind.i64.min ≤ i ∧ i ≤ IntKind.i64.max
theorem typ_Ii64_3 {n : Nat} {vs : List V} (h : Typ Try.prog (n + 1) 3 vs) : ∃ x : Int, vs = [(V.v (.int .i64 (x)))] ∧ kIi64 (x) := by
  simp only [Typ, Try.underlying3] at h
  obtain ⟨i, rfl, hw⟩ := h
  refine ⟨i, rfl, ?_⟩
  simp only [Lit.wf, Bool.and_eq_true, decide_eq_true_eq] at hw
  exact hw
def kTBounds (x : TBounds) : Prop := kIi64 (x.Low) ∧ kIi64 (x.High)
theorem typ_TBounds_59 {n : Nat} {vs : List V} (h : Typ Try.prog (n + 2) 59 vs) : ∃ x : TBounds, vs = eTBounds x ∧ kTBounds x := by
  unfold Typ at h
  simp only [Try.underlying59] at h
  obtain ⟨ls, rfl, h⟩ := h
  obtain ⟨v0, v1, rfl, h0, h1⟩ := all2_2 h
  obtain ⟨x0, rfl, k0⟩ := typ_Ii64_3 (n := n + 0) h0
  obtain ⟨x1, rfl, k1⟩ := typ_Ii64_3 (n := n + 0) h1
  exact ⟨⟨x0, x1⟩, rfl, k0, k1⟩
def kTRun (x : TRun) : Prop := kIi64 (x.From) ∧ kIi64 (x.To) ∧ kTBounds (x.Speed) ∧ kTBounds (x.Wait)
theorem typ_TRun_66 {n : Nat} {vs : List V} (h : Typ Try.prog (n + 3) 66 vs) : ∃ x : TRun, vs = eTRun x ∧ kTRun x := by
  unfold Typ at h
  simp only [Try.underlying66] at h
  obtain ⟨ls, rfl, h⟩ := h
  obtain ⟨v0, v1, v2, v3, rfl, h0, h1, h2, h3⟩ := all2_4 h
  obtain ⟨x0, rfl, k0⟩ := typ_Ii64_3 (n := n + 1) h0
  obtain ⟨x1, rfl, k1⟩ := typ_Ii64_3 (n := n + 1) h1
  obtain ⟨x2, rfl, k2⟩ := typ_TBounds_59 (n := n + 0) h2
  obtain ⟨x3, rfl, k3⟩ := typ_TBounds_59 (n := n + 0) h3
  exact ⟨⟨x0, x1, x2, x3⟩, rfl, k0, k1, k2, k3⟩
def kLTRun (l : List TRun) : Prop := l.length ≤ 140737488355328 ∧ ∀ x ∈ l, kTRun (x)
theorem typ_LTRun_60 {n : Nat} {vs : List V} (h : Typ Try.prog (n + 4) 60 vs) : ∃ x : List TRun, vs = [(V.sl (recs eTRun (x)) (x).length)] ∧ kLTRun (x) := by
  unfold Typ at h
  simp only [Try.underlying60] at h
  obtain ⟨ls, rfl, h1, h2⟩ := h
  obtain ⟨l, h3, h4, h5⟩ := typ_list (enc := eTRun) (fun vs hv => typ_TRun_66 (n := n) hv) ls h1
  refine ⟨l, by rw [h3, h4], ?_, h5⟩
  have hb : Try.prog.bytesOf 66 = 48 := by kernel_rfl
  rw [hb, h4] at h2
  have : reachBytes = 140737488351232 := rfl
  omega
def kTVoyage (x : TVoyage) : Prop := kTBounds (x.Start) ∧ kLTRun (x.Runs) ∧ kIi64 (x.Length) ∧ kIi64 (x.Width)
theorem typ_TVoyage_62 {n : Nat} {vs : List V} (h : Typ Try.prog (n + 5) 62 vs) : ∃ x : TVoyage, vs = eTVoyage x ∧ kTVoyage x := by
  unfold Typ at h
  simp only [Try.underlying62] at h
  obtain ⟨ls, rfl, h⟩ := h
  obtain ⟨v0, v1, v2, v3, rfl, h0, h1, h2, h3⟩ := all2_4 h
  obtain ⟨x0, rfl, k0⟩ := typ_TBounds_59 (n := n + 2) h0
  obtain ⟨x1, rfl, k1⟩ := typ_LTRun_60 (n := n + 0) h1
  obtain ⟨x2, rfl, k2⟩ := typ_Ii64_3 (n := n + 3) h2
  obtain ⟨x3, rfl, k3⟩ := typ_Ii64_3 (n := n + 3) h3
  exact ⟨⟨x0, x1, x2, x3⟩, rfl, k0, k1, k2, k3⟩
def kIu16 (i : Int) : Prop := IntKind.u16.min ≤ i ∧ i ≤ IntKind.u16.max
theorem typ_Iu16_63 {n : Nat} {vs : List V} (h : Typ Try.prog (n + 1) 63 vs) : ∃ x : Int, vs = [(V.v (.int .u16 (x)))] ∧ kIu16 (x) := by
  simp only [Typ, Try.underlying63] at h
  obtain ⟨i, rfl, hw⟩ := h
  refine ⟨i, rfl, ?_⟩
  simp only [Lit.wf, Bool.and_eq_true, decide_eq_true_eq] at hw
  exact hw
end Go.Ev
/- Tests that are decided by other tests. -/
namespace Go.Ev
theorem eqT_ne {α : Type} [BEq α] {a b : α} (h : (a == b) = true) : (a != b) = false := by rw [bne, h]; rfl
theorem eqF_ne {α : Type} [BEq α] {a b : α} (h : (a == b) = false) : (a != b) = true := by rw [bne, h]; rfl
theorem neT_eq {α : Type} [BEq α] {a b : α} (h : (a != b) = true) : (a == b) = false := by
  unfold bne at h; cases e : (a == b) with
  | true => rw [e] at h; cases h
  | false => rfl
theorem neF_eq {α : Type} [BEq α] {a b : α} (h : (a != b) = false) : (a == b) = true := by
  unfold bne at h; cases e : (a == b) with
  | true => rfl
  | false => rw [e] at h; cases h
end Go.Ev
/- Functions that hand back a value with a new list in one of its cells. -/
set_option linter.unusedVariables false
set_option linter.unusedSimpArgs false
namespace Go.Ev
open Go.RowKit

/-- No way into a box. -/
def isCl : V → Bool
  | .box _ _ => false
  | .osl _ _ => false
  | .yld _ => false
  | .ag _ => false
  | _ => true
theorem RC.of_RP {m : MP} {F : FZ} {H : Array Obj} {c : V} {x : Value} (hc : isCl c = true) (h : RP m F H c x) : RC F H c x := by
  cases c <;> first | exact h | cases hc

def endVA (i : Nat) (ty : TypeId) (size : Nat) (r : V) (st : ST) (v : V) : Prop :=
  ∃ b n cs cs0, v = .ag cs0 ∧ cs0[i]? = some (.osl b n) ∧ look st b = some (.row ty size cs 0) ∧ n * size = cs.length ∧ (cs0.set i .top).all isCl = true ∧ r = .agg (cs0.set i (.sl cs n))

def endRA (P : Program) (fn : Func) (i : Nat) (ty : TypeId) (size : Nat) (r : V) (e : AX) (tm : TM) (st : ST) (nx : Nat) : Prop := match e with
  | .exit _ => False
  | _ => match fn.results.toList with
    | [.tmp t] => endVA i ty size r st ((look tm t).getD .top)
    | [.cell p t] => (opR P (fun _ => none) 0 (ev tm) (.load t (.tmp p))).go st fun v st' => endVA i ty size r st' v
    | _ => False

theorem freshA_end {O : Nat → Prop} {w0 : World} {F0 : FZ} {M0 : MP} {D : List Deferred} {U : Nat → Prop} {F : FZ} {m : MP} {sz : Nat} {tm : TM} {st : ST} {a : Act} {w : World} (h : Rel O w0 F0 M0 D U F m sz tm st a w) {k : Nat} (hO : ∀ g, O g → k ≤ g)
    {v : V} {x : Value} (hx : RV m F w.heap v x) {i : Nat} {ty : TypeId} {size n : Nat} {cs0 cs : List V} (he : endVA i ty size (.agg cs0) st v) (hcell : cs0[i]? = some (.sl cs n)) : FreshAV F k w.heap i ty size cs0 cs n x := by
  obtain ⟨b, n', cs', cs1, rfl, h1, h2, h3, h4, h5⟩ := he
  cases h5
  obtain ⟨arr, rfl, hl, hall⟩ := hx
  have hi : i < cs1.length := (List.getElem?_eq_some_iff.1 h1).1
  rw [List.getElem?_set_self hi] at hcell
  cases hcell
  have hy : arr.toList[i]? = some (arr.toList[i]'(by omega)) := List.getElem?_eq_getElem (by omega)
  refine ⟨arr, _, rfl, by simpa using hl, fun j c z hj hc hz => ?_, hy, ?_⟩
  · rw [List.getElem?_set_ne (Ne.symm hj)] at hc
    obtain ⟨q1, q2⟩ := hall j c z hc hz
    have hm : c ∈ cs1.set i .top := by
      refine List.mem_of_getElem? (i := j) ?_
      rw [List.getElem?_set_ne (Ne.symm hj)]; exact hc
    exact ⟨RC.of_RP (List.all_eq_true.1 h4 c hm) q1, q2⟩
  · exact fresh_end h hO (RV.of_RP (hall i _ _ h1 hy).1) (.inl ⟨b, _, _, rfl, h2, h3, rfl⟩)

theorem soundA_of_awp {P : Program} {C : FuncId → Option Con} (hC : CtxOK P C) (hmix : P.follows .mixedOrders = true) {f : FuncId} {fn : Func} {c : Code} (hf : P.funcs[f]? = some fn) (hb : fn.body = some c) {con : Con} {i : Nat} {ty : TypeId} {size : Nat}
    (h : ∀ x, con.ok x → (con.enc x).length ≤ fn.ntmps ∧ awp P C fn.ntmps 0 c (endRA P fn i ty size (con.res x)) (startT (con.enc x)) [] 0) : SoundA P f con i ty size := by
  intro x F w vs cs0 cs n hF hv hok hres hcell
  obtain ⟨hlen, hawp⟩ := h x hok
  rw [hres] at hawp
  generalize havs : con.enc x = avs at hlen hawp hv
  have hl := RCs_length hv
  refine callsIn_wide.1 (callsIn_of_wp (n := 0) hf hb trivial ?_)
  have hR : Rel (fun g => w.heap.size ≤ g) w F (fun _ => none) [] (fun b => 0 ≤ b) F (fun _ => none) fn.ntmps (startT avs) [] { tmps := vs.toArray ++ Array.replicate (fn.ntmps - vs.toArray.size) undef, defers := [] } w := by
    refine { htm := fun i => ?_, hsz := by simp; omega, hde := rfl, hst := fun b x hx => by simp at hx, inj := fun b b' g c c' _ _ hm => (by cases hm), fresh := fun b _ => ⟨rfl, rfl⟩, pin := fun b y e => (by cases e), keep := Keeps.refl _ _, f0 := fun _ _ e => e, f1 := fun _ _ e => .inl e, f2 := hF, mlt := fun b g c hm => (by cases hm), below := Own.refl _ _, hb := fun _ e => e }
    have e : look (startT avs) i = avs[i]? := by
      unfold startT
      rw [List.range_eq_range', look_start avs 0 i]
      simp
    rw [e]
    cases hi : avs[i]? with
    | none => exact trivial
    | some c =>
      have hil : i < avs.length := (List.getElem?_eq_some_iff.1 hi).1
      have hx : vs[i]? = some (vs[i]'(by omega)) := List.getElem?_eq_getElem (by omega)
      have := ((RCs_iff.1 hv).2 i c _ hi hx).1
      simp only [Option.getD_some]
      have e2 : (vs.toArray ++ Array.replicate (fn.ntmps - vs.toArray.size) undef).getD i undef = vs[i]'(by omega) := by
        rw [Array.getD_eq_getD_getElem?, Array.getElem?_append_left (by simp; omega)]
        simp [hx]
      rw [e2]
      exact RV.of_RC this
  refine awp_sound (pins := 0) hC wide_wide hmix (fun b y e => by cases e) c _ _ F _ _ _ 0 _ w hR hawp ?_
  have fin : ∀ (a' : Act) (w' : World) (F' : FZ) (m' : MP) (tm' : TM) (st' : ST) (nx' : Nat), Rel (fun g => w.heap.size ≤ g) w F (fun _ => none) [] (fun b => nx' ≤ b) F' m' fn.ntmps tm' st' a' w' →
      (match fn.results.toList with
        | [.tmp t] => endVA i ty size (.agg cs0) st' ((look tm' t).getD .top)
        | [.cell p t] => (opR P (fun _ => none) 0 (ev tm') (.load t (.tmp p))).go st' fun v st' => endVA i ty size (.agg cs0) st' v
        | _ => False) →
      a'.defers = [] ∧ ∃ v, (results fn a'.tmps).run P w' = .ok v w' ∧ ∃ v_1 F', Ending.returned v = Ending.returned v_1 ∧ Below w.heap.size w w' ∧ (∀ g j, F g j → F' g j) ∧ (∀ g j, F' g j → F g j ∨ w.heap.size ≤ g) ∧ (∀ g j, F' g j → g < w'.heap.size) ∧ FreshAV F' w.heap.size w'.heap i ty size cs0 cs n v_1 := by
    intro a' w' F' m' tm' st' nx' hR' hg
    split at hg
    · next t hres =>
      have hr : fn.results = #[.tmp t] := by cases hh : fn.results; rw [hh] at hres; simp at hres; simp [hres]
      refine ⟨hR'.hde, a'.tmps.getD t undef, by simp [results, hr, Array.mapM_eq_mapM_toList], _, F', rfl, hR'.below.below, hR'.f0, hR'.f1, hR'.f2, ?_⟩
      exact freshA_end hR' (fun g e => e) (hR'.htm t) hg hcell
    · next p t hres =>
      obtain ⟨F1, st1, c1, v1, h1, e1, hrun, hv1, hg1⟩ := load_sound (P := P) (C := fun _ => none) hR' hg
      refine ⟨hR'.hde, v1, results_eq fn a'.tmps w' [v1] ?_, _, F1, rfl, h1.below.below, h1.f0, h1.f1, h1.f2, freshA_end h1 (fun g e => e) hv1 hg1 hcell⟩
      have hld : (resOne a'.tmps (.cell p t)).run P w' = .ok v1 w' := by
        have e : a'.eval (.tmp p) = a'.tmps.getD p undef := rfl
        rw [e] at hrun
        simp only [resOne]
        cases hp : a'.tmps.getD p undef with
        | pointer q =>
          rw [hp] at hrun
          cases q with
          | some q => simpa [asAddr, Instr.loadAt, Instr.sureAddr] using hrun
          | none => simp [Instr.loadAt, Instr.sureAddr, Result.andThen] at hrun
        | _ => rw [hp] at hrun; simp [Instr.loadAt, Instr.sureAddr, Result.andThen] at hrun
      rw [hres]
      simp [List.mapM_cons, hld]
    · exact hg.elim
  intro e a' w' hpo
  cases e with
  | normal => obtain ⟨F', m', tm', st', nx', hR', hg⟩ := hpo; exact fin a' w' F' m' tm' st' nx' hR' hg
  | ret => obtain ⟨F', m', tm', st', nx', hR', hg⟩ := hpo; exact fin a' w' F' m' tm' st' nx' hR' hg
  | exit id => obtain ⟨F', m', tm', st', nx', hR', hg⟩ := hpo; exact hg.elim
  | goto l => exact hpo.elim
  | panic c => exact hpo.elim
  | outgrown => exact hpo.elim

/-- A contract by a function that makes a value with a new list in its cell i. -/
def conA {α β : Type} (F : α → Option β) (enc : α → List V) (er : β → V) (i : Nat) (ty : TypeId) (size : Nat) : Con := { α := α × β, enc := fun x => enc x.1, ok := fun x => F x.1 = some x.2, res := fun x => er x.2, frs := .freshA i ty size }

section
variable {P : Program} {C : FuncId → Option Con} {id : Nat} {st : ST} {rs ws : List Nat}
theorem hasFA (hC : CtxOK P C) (hmix : P.follows .mixedOrders = true) {f : FuncId} {fn : Func} {c : Code} (hf : P.funcs[f]? = some fn) (hb : fn.body = some c)
    (hn : (fn.name == "runtime.NumGoroutine") = false) {α β : Type} {F : α → Option β} {enc : α → List V} {er : β → V} {i : Nat} {ty : TypeId} {size : Nat}
    (h : ∀ x r, (F x).bind some = some r → (enc x).length ≤ fn.ntmps ∧ awp P C fn.ntmps 0 c (endRA P fn i ty size (er r)) (startT (enc x)) [] 0) : Has P f (conA F enc er i ty size) :=
  ⟨soundA_of_awp (con := conA F enc er i ty size) hC hmix hf hb fun x hx => h x.1 x.2 (by show (F x.1).bind some = _; rw [show F x.1 = some x.2 from hx]; rfl), enters_ok hf hn (by simp [hb])⟩

theorem g_callA {α β : Type} {F : α → Option β} {enc : α → List V} {er : β → V} {i : Nat} {ty : TypeId} {size : Nat} {avs : List V} {K : V → ST → Prop} {x : α} {y : β} (hy : F x = some y) (ha : LeVs avs (enc x))
    (h : (freshRA id i ty size (er y)).go st K) : (RM.exi (conA F enc er i ty size).α (fun z => LeVs avs ((conA F enc er i ty size).enc z) ∧ (conA F enc er i ty size).ok z) (fun z => freshRA id i ty size ((conA F enc er i ty size).res z))).go st K := ⟨(x, y), ⟨ha, hy⟩, h⟩
theorem g_callAT {α β : Type} {F : α → Option β} {enc : α → List V} {er : β → V} {i : Nat} {ty : TypeId} {size : Nat} {avs : List V} {K : V → ST → List Nat → List Nat → Prop} {x : α} {y : β} (hy : F x = some y) (ha : LeVs avs (enc x))
    (h : (freshRA id i ty size (er y)).goT st rs ws K) : (RM.exi (conA F enc er i ty size).α (fun z => LeVs avs ((conA F enc er i ty size).enc z) ∧ (conA F enc er i ty size).ok z) (fun z => freshRA id i ty size ((conA F enc er i ty size).res z))).goT st rs ws K := ⟨(x, y), ⟨ha, hy⟩, h⟩
end
end Go.Ev
/- Elements of arrays, by an index that is not written: by cases. -/
namespace Go.Ev
theorem ib_ok {j : Int} {c n : Nat} (e : j = (c : Int)) (hc : decide (c < n) = true) : 0 ≤ j ∧ j < (n : Int) := by
  have := of_decide_eq_true hc
  omega
theorem ib_nat {j : Int} {c : Nat} (e : j = (c : Int)) : j.toNat = c := by omega
variable {P : Program} {st : ST} {rs ws : List Nat}
theorem o_ib {K : V → ST → Prop} {j : Int} {c n b off size : Nat} {d : Decidable (0 ≤ j ∧ j < (n : Int))} (e : j = (c : Int)) (hc : decide (c < n) = true)
    (h : (RM.ret (.box b (off + c * size))).go st K) : (@RM.dec (0 ≤ j ∧ j < (n : Int)) (.ret (.box b (off + j.toNat * size))) d).go st K :=
  go_req (ib_ok e hc) (by rw [ib_nat e]; exact h)
theorem o_ibT {K : V → ST → List Nat → List Nat → Prop} {j : Int} {c n b off size : Nat} {d : Decidable (0 ≤ j ∧ j < (n : Int))} (e : j = (c : Int)) (hc : decide (c < n) = true)
    (h : (RM.ret (.box b (off + c * size))).goT st rs ws K) : (@RM.dec (0 ≤ j ∧ j < (n : Int)) (.ret (.box b (off + j.toNat * size))) d).goT st rs ws K :=
  goT_req (ib_ok e hc) (by rw [ib_nat e]; exact h)
theorem o_ix {K : V → ST → Prop} {j : Int} {c n size : Nat} {t : TypeId} {cs : List V} {f : V → RM} {d : Decidable (0 ≤ j ∧ j < (n : Int))} (e : j = (c : Int)) (hc : decide (c < n) = true)
    (h : (takeR P t cs (c * size) f).go st K) : (@RM.dec (0 ≤ j ∧ j < (n : Int)) (takeR P t cs (j.toNat * size) f) d).go st K :=
  go_req (ib_ok e hc) (by rw [ib_nat e]; exact h)
theorem o_ixT {K : V → ST → List Nat → List Nat → Prop} {j : Int} {c n size : Nat} {t : TypeId} {cs : List V} {f : V → RM} {d : Decidable (0 ≤ j ∧ j < (n : Int))} (e : j = (c : Int)) (hc : decide (c < n) = true)
    (h : (takeR P t cs (c * size) f).goT st rs ws K) : (@RM.dec (0 ≤ j ∧ j < (n : Int)) (takeR P t cs (j.toNat * size) f) d).goT st rs ws K :=
  goT_req (ib_ok e hc) (by rw [ib_nat e]; exact h)
/-! stores at two offsets -/
theorem o_stBT {α : Type} {enc : α → List V} {s o n : Nat} {l r : List α} {j : Int} {a x : α} {new : List V} {b : Nat} {e : TypeId} {d : Decidable (new.length = n ∧ j.toNat * s + o + n ≤ (recs enc l).length ∧ 0 ≤ j.toNat * s + o)} {K : V → ST → List Nat → List Nat → Prop} (hi : idx? l j = some a) (h : set? l j x = some r) (he : ∀ a, (enc a).length = s) (ho : o + n ≤ s)
    (hn : new.length = n) (hb : (enc a).take o ++ new ++ (enc a).drop (o + n) = enc x)
    (hk : (RM.ret .top).goT ((b, .row e s (recs enc r) 0) :: st) rs (b :: ws) K) : (@RM.dec (new.length = n ∧ j.toNat * s + o + n ≤ (recs enc l).length ∧ 0 ≤ j.toNat * s + o) (.put b (.row e s ((recs enc l).take (j.toNat * s + o) ++ new ++ (recs enc l).drop (j.toNat * s + o + n)) 0) (.ret .top)) d).goT st rs ws K := by
  obtain ⟨h1, h2⟩ := set_eq (o := o) hi h he ho hn hb
  rw [h2]; exact ⟨h1, hk⟩
theorem o_stC {α : Type} {enc : α → List V} {s o o2 n : Nat} {l r : List α} {j : Int} {a x : α} {new : List V} {b : Nat} {e : TypeId} {d : Decidable (new.length = n ∧ j.toNat * s + o + o2 + n ≤ (recs enc l).length ∧ 0 ≤ j.toNat * s + o + o2)} {K : V → ST → Prop} (hi : idx? l j = some a) (h : set? l j x = some r) (he : ∀ a, (enc a).length = s) (ho : (o + o2) + n ≤ s)
    (hn : new.length = n) (hb : (enc a).take (o + o2) ++ new ++ (enc a).drop ((o + o2) + n) = enc x)
    (hk : (RM.ret .top).go ((b, .row e s (recs enc r) 0) :: st) K) : (@RM.dec (new.length = n ∧ j.toNat * s + o + o2 + n ≤ (recs enc l).length ∧ 0 ≤ j.toNat * s + o + o2) (.put b (.row e s ((recs enc l).take (j.toNat * s + o + o2) ++ new ++ (recs enc l).drop (j.toNat * s + o + o2 + n)) 0) (.ret .top)) d).go st K := by
  obtain ⟨h1, h2⟩ := set_eq (o := (o + o2)) hi h he ho hn hb
  simp only [← Nat.add_assoc] at h1 h2
  rw [h2]; exact ⟨h1, hk⟩
theorem o_stCT {α : Type} {enc : α → List V} {s o o2 n : Nat} {l r : List α} {j : Int} {a x : α} {new : List V} {b : Nat} {e : TypeId} {d : Decidable (new.length = n ∧ j.toNat * s + o + o2 + n ≤ (recs enc l).length ∧ 0 ≤ j.toNat * s + o + o2)} {K : V → ST → List Nat → List Nat → Prop} (hi : idx? l j = some a) (h : set? l j x = some r) (he : ∀ a, (enc a).length = s) (ho : (o + o2) + n ≤ s)
    (hn : new.length = n) (hb : (enc a).take (o + o2) ++ new ++ (enc a).drop ((o + o2) + n) = enc x)
    (hk : (RM.ret .top).goT ((b, .row e s (recs enc r) 0) :: st) rs (b :: ws) K) : (@RM.dec (new.length = n ∧ j.toNat * s + o + o2 + n ≤ (recs enc l).length ∧ 0 ≤ j.toNat * s + o + o2) (.put b (.row e s ((recs enc l).take (j.toNat * s + o + o2) ++ new ++ (recs enc l).drop (j.toNat * s + o + o2 + n)) 0) (.ret .top)) d).goT st rs ws K := by
  obtain ⟨h1, h2⟩ := set_eq (o := (o + o2)) hi h he ho hn hb
  simp only [← Nat.add_assoc] at h1 h2
  rw [h2]; exact ⟨h1, hk⟩
/-- An element of a list that has been written to: it is as long as it was. -/
theorem oidx_len {α : Type} {l l0 : List α} {j : Int} {a : α} {s : Nat} (h : idx? l j = some a) (hl : l.length = l0.length) (hs : 0 < s) : 0 ≤ j ∧ j < (l0.length : Int) ∧ 0 < s := by
  have := oidx_ok h hs
  rw [hl] at this
  exact this
end Go.Ev
/- Operations that only runs do: the capacity of nil, slices of nil, an own slice cut to nothing, append of make. -/
set_option linter.unusedVariables false
set_option linter.unusedSimpArgs false
namespace Go.Ev
open Go.RowKit
noncomputable section

def isNil : V → Bool
  | .v (.slice none 0 0) => true
  | _ => false
theorem isNil_eq {c : V} (h : isNil c = true) : c = .v (.slice none 0 0) := by
  unfold isNil at h
  split at h
  · rfl
  · cases h
def isZero : V → Bool
  | .v (.int .i64 (.ofNat 0)) => true
  | _ => false
theorem isZero_eq {c : V} (h : isZero c = true) : c = .v (.int .i64 0) := by
  unfold isZero at h
  split at h
  · rfl
  · cases h
def natOf : V → Option Nat
  | .v (.int .i64 (.ofNat n)) => some n
  | _ => none
theorem natOf_eq {c : V} {n : Nat} (h : natOf c = some n) : c = .v (.int .i64 (n : Int)) := by
  unfold natOf at h
  split at h
  · cases h; rfl
  · cases h
def oslOf : V → Option Nat
  | .osl b _ => some b
  | _ => none
theorem oslOf_eq {c : V} {b : Nat} (h : oslOf c = some b) : ∃ n, c = .osl b n := by
  unfold oslOf at h
  split at h
  · cases h; exact ⟨_, rfl⟩
  · cases h

section
variable (P : Program)
def opE (id : Nat) (ρ : Operand → V) : Op → Option RM
  | .call { callee := .builtin .cap, args, argTypes } => match args.toList, argTypes.toList with
    | [x], [t] => match isNil (ρ x), elemOf? P t with
      | true, some _ => some (.retF (.v (.int .i64 0)))
      | _, _ => none
    | _, _ => none
  | .call { callee := .builtin .append, args, argTypes } => match args.toList, argTypes.toList with
    | [s, x], [t, u] => match isNil (ρ s), natOf (ρ x), intOf? P u, elemOf? P t with
      | true, some n, some _, some e => match szOf P e, bytesOf P e, zeroOf P e with
        | some size, some bytes, some z => some (.dec (0 < n ∧ n ≤ maxLen ∧ n * bytes ≤ 140737488355328 ∧ 0 < size) (.put id (.row e size (List.replicate n z).flatten 0) (.ret (.osl id n))))
        | _, _, _ => none
      | _, _, _, _ => none
    | _, _ => none
  | .slice t x none (some y) none => match isZero (ρ y), elemOf? P t with
    | true, some e => match szOf P e with
      | some _ => match isNil (ρ x), oslOf (ρ x) with
        | true, _ => some (.retF (.v (.slice none 0 0)))
        | false, some b => some (.get b fun
          | .row e size _ 0 => .put b (.row e size [] 0) (.ret (.osl b 0))
          | _ => .fail)
        | _, _ => none
      | none => none
    | _, _ => none
  | _ => none

def opA (id : Nat) (ρ : Operand → V) (op : Op) : RM := match opE P id ρ op with
  | some r => r
  | none => opR P (fun _ => none) id ρ op
end

section
variable {P : Program}
theorem Rel.trunc {O : Nat → Prop} {w0 : World} {F0 : FZ} {M0 : MP} {D : List Deferred} {U : Nat → Prop} {F : FZ} {m : MP} {sz : Nat} {tm : TM} {st : ST} {a : Act} {w : World} (h : Rel O w0 F0 M0 D U F m sz tm st a w)
    {b size : Nat} {e : TypeId} {cs : List V} (hl : look st b = some (.row e size cs 0)) : Rel O w0 F0 M0 D U F m sz tm ((b, .row e size [] 0) :: st) a w := by
  have hal : ∀ b', aliveB ((b, .row e size [] 0) :: st) b' → aliveB st b' := by
    rintro b' ⟨y, hy, hy0⟩
    rw [look_cons] at hy
    split at hy
    · next e => subst e; exact ⟨_, hl, by simp⟩
    · exact ⟨y, hy, hy0⟩
  refine { h with hst := ?_, inj := fun b1 b2 g' c1 c2 a1 a2 => h.inj b1 b2 g' c1 c2 (hal _ a1) (hal _ a2), fresh := ?_ }
  · intro b' y hy
    rw [look_cons] at hy
    split at hy
    · next e =>
      subst e; cases hy
      rcases h.hst b _ hl with ⟨g, cap, cur, q1, q2, q3, q4, q5, q6, q7, q8, q9, q10⟩ | ⟨q1, q2, q3⟩
      · exact .inl ⟨g, cap, cur, q1, q2, q3, q4, q5, q6, trivial, q8, q9, Nat.zero_le _⟩
      · exact .inr ⟨q1, rfl, rfl⟩
    · exact h.hst b' y hy
  · intro b' hb'
    obtain ⟨e1, e2⟩ := h.fresh b' hb'
    refine ⟨?_, e2⟩
    rw [look_cons, if_neg (fun e => by subst e; rw [hl] at e1; cases e1)]
    exact e1

theorem opE_ok {o : Oper} {r : RM} {O : Nat → Prop} {w0 : World} {F0 : FZ} {M0 : MP} {D : List Deferred} {U : Nat → Prop} {F : FZ} {m : MP} {sz : Nat} {tm : TM} {st : ST} {a : Act} {w : World} {id : Nat} {K : V → ST → Prop}
    {next : Act → World → Prop} {Q : Exit → Act → World → Prop} (h : Rel O w0 F0 M0 D U F m sz tm st a w) (hU : U id) (hd : okDst sz o.dst = true) (he : opE P id (ev tm) o.op = some r) (hg : r.go st K)
    (hn : ∀ F' m' v st' a' w', Rel O w0 F0 M0 D (fun b => U b ∧ b ≠ id) F' m' sz (putT tm o.dst v) st' a' w' → K v st' → next a' w') : o.wpX P a w next Q := by
  unfold opE at he
  split at he
  · next args ts ho =>
    split at he
    · next x t hx ht =>
      split at he
      · next e hni he' =>
        cases he
        have hx' := h.ev x
        rw [isNil_eq hni] at hx'
        have hx' : a.eval x = .slice none 0 0 := hx'
        have hu : P.underlying t = some (.slice e) := by simp only [elemOf?] at he'; split at he' <;> simp_all
        have hargs : args = #[x] := by cases args; simp_all
        have htys : ts = #[t] := by cases ts; simp_all
        subst hargs htys
        refine done_pure h hd hn (c := .v (.int .i64 0)) (x := .int .i64 0) ?_ rfl hg
        rw [run_builtin ho]
        simp [builtin, Builtin.cap_, run_underlying hu, hx', goInt]
      · cases he
    · cases he
  · next args ts ho =>
    split at he
    · next s x t u hsx htu =>
      split at he
      · next n ku e hni hnx hiu he' =>
        split at he
        · next size bytes z hsz hby hz =>
          cases he
          have hargs : args = #[s, x] := by cases args; simp_all
          have htys : ts = #[t, u] := by cases ts; simp_all
          subst hargs htys
          have hs' := h.ev s
          rw [isNil_eq hni] at hs'
          have hs' : a.eval s = .slice none 0 0 := hs'
          have hx' := h.ev x
          rw [natOf_eq hnx] at hx'
          have hx' : a.eval x = .int .i64 (n : Int) := hx'
          have hu : P.underlying t = some (.slice e) := by simp only [elemOf?] at he'; split at he' <;> simp_all
          have hi : P.underlying u = some (.int ku) := by simp only [intOf?] at hiu; split at hiu <;> simp_all
          obtain ⟨⟨h0, hmax, hbig, hpos⟩, hg⟩ := hg
          obtain ⟨v, hrun, hzv, hone, it, hit, hitz, hvsz⟩ := zero_run (P := P) (w := w) hz
          have hits : it.size = size := by simpa [szOf, hit] using hsz
          have hitb : it.bytes = bytes := by simpa [bytesOf, hit] using hby
          have hr := Go.Lib.run_append_nil_zeros (P := P) w t u o.type e it v .i64 ku hu hi hit hitz n h0 (by omega) (by unfold maxLen at hmax; omega) (by rw [hitb]; omega)
          have hge := grownCap_ge w n 0 e
          have hcm := grownCap_le_maxLen w n 0 e hmax
          have hvs : v.cells.size = size := by rw [hvsz, hits]
          have hzc : ∀ k, (Builtin.zeroCells v.cells k).size = k * size := fun k => by rw [size_zeroCells, hvs]
          have hflat : (List.replicate n z).flatten.length = n * size := by
            rw [hzv, flat_get (z := v.cells.toList.map V.v) (zs := v.cells.toList) (by simp)]; simp [hvs]
          obtain ⟨hR, hm, hk⟩ := row_new2 h.drew hU (id := id) (e := e) (size := size) (n := grownCap w n 0 e) (cs := (List.replicate n z).flatten) (arr := Builtin.zeroCells v.cells n ++ Builtin.zeroCells v.cells (grownCap w n 0 e - n)) hpos (by
            rw [hflat, Array.toList_append, List.take_append_of_le_length (by rw [Array.length_toList, hzc]; exact Nat.le_refl _), List.take_of_length_le (by rw [Array.length_toList, hzc]; exact Nat.le_refl _), RCs_iff]
            refine ⟨by rw [hflat, Array.length_toList, hzc], fun i c y hc hy => ?_⟩
            have hi : i < n * size := by rw [← hflat]; exact (List.getElem?_eq_some_iff.1 hc).1
            have him : i % size < v.cells.size := by rw [hvs]; exact Nat.mod_lt _ hpos
            have key : ∀ (n i : Nat), i < n * size → (List.replicate n (v.cells.toList.map V.v)).flatten[i]? = some (V.v (v.cells[i % size]'(by rw [hvs]; exact Nat.mod_lt _ hpos))) := by
              intro n
              induction n with
              | zero => intro i hi; omega
              | succ n ih =>
                intro i hi
                rw [List.replicate_succ, List.flatten_cons]
                by_cases hlt : i < size
                · rw [List.getElem?_append_left (by simp; omega), List.getElem?_map]
                  simp [Nat.mod_eq_of_lt hlt, hvs, hlt]
                · rw [List.getElem?_append_right (by simp; omega)]
                  have e1 : i - (v.cells.toList.map V.v).length = i - size := by simp [hvs]
                  rw [e1, ih (i - size) (by rw [Nat.add_mul] at hi; omega)]
                  congr 3
                  exact (Nat.mod_eq_sub_mod (by omega)).symm
            rw [hzv, key n i hi] at hc
            cases hc
            have hy2 : v.cells[i % size]'him = y := by
              simp [Builtin.zeroCells, hvs, hi] at hy
              rw [← hy]
              simp [him]
            subst hy2
            exact ⟨rfl, fun _ => hone _ (by simp)⟩) (by
            rw [Array.size_append, hzc, hzc, ← Nat.add_mul]
            congr 1; omega) hcm
          refine fin_value (v := .slice (some ⟨w.heap.size, 0, none⟩) n (grownCap w n 0 e)) ?_ (hn _ _ _ _ _ _ (hR.put hd (c := .osl id n) (.inl ⟨w.heap.size, grownCap w n 0 e, by simp, hge, rfl⟩)) hg)
          rw [run_builtin ho]
          simp [builtin, hs', hx', hr]
        · cases he
      · cases he
    · cases he
  · next t x y ho =>
    split at he
    · next e hz he' =>
      have hu : P.underlying t = some (.slice e) := by simp only [elemOf?] at he'; split at he' <;> simp_all
      split at he
      · next size hsz =>
        have hy := h.ev y
        rw [isZero_eq hz] at hy
        have hy : a.eval y = .int .i64 0 := hy
        split at he
        · next hni =>
          cases he
          have hx' := h.ev x
          rw [isNil_eq hni] at hx'
          have hx' : a.eval x = .slice none 0 0 := hx'
          refine done_pure h hd hn (c := .v (.slice none 0 0)) (x := .slice none 0 0) ?_ rfl hg
          simp [execOp, ho, hx', Instr.sliceAt, Instr.slice, run_underlying hu, Instr.sliceBounds, Instr.sliceBound, asIntOf, sz_run hsz, hy]
        · next b hni hob =>
          cases he
          obtain ⟨n, hob⟩ := oslOf_eq hob
          have hx' := h.ev x
          rw [hob] at hx'
          simp only [RM.go] at hg
          cases hl : look st b with
          | none => simp [hl] at hg
          | some q =>
            rw [hl] at hg
            simp only at hg
            split at hg
            · next e2 size2 cs2 =>
              have hR := h.trunc hl
              rcases hx' with ⟨g, cap, hm, hnc, hx'⟩ | ⟨rfl, hx'⟩
              · refine fin_value (v := .slice (some ⟨g, 0, none⟩) 0 cap) ?_ (hn F m _ _ _ _ ((hR.weakU fun _ e => e.1).put hd (c := .osl b 0) (.inl ⟨g, cap, hm, Nat.zero_le _, rfl⟩)) hg)
                simp [execOp, ho, hx', Instr.sliceAt, Instr.slice, run_underlying hu, Instr.sliceBounds, Instr.sliceBound, asIntOf, sz_run hsz, hy, Addr.add_lit]
              · refine fin_value (v := .slice none 0 0) ?_ (hn F m _ _ _ _ ((hR.weakU fun _ e => e.1).put hd (c := .osl b 0) (.inr ⟨rfl, rfl⟩)) hg)
                simp [execOp, ho, hx', Instr.sliceAt, Instr.slice, run_underlying hu, Instr.sliceBounds, Instr.sliceBound, asIntOf, sz_run hsz, hy]
            · cases hg
        · cases he
      · cases he
    · cases he
  · cases he

theorem opA_ok {o : Oper} {O : Nat → Prop} {w0 : World} {F0 : FZ} {M0 : MP} {D : List Deferred} {U : Nat → Prop} {F : FZ} {m : MP} {sz : Nat} {tm : TM} {st : ST} {a : Act} {w : World} {id : Nat} {K : V → ST → Prop}
    {next : Act → World → Prop} {Q : Exit → Act → World → Prop} (h : Rel O w0 F0 M0 D U F m sz tm st a w) (hU : U id) (hd : okDst sz o.dst = true) (hg : (opA P id (ev tm) o.op).go st K)
    (hn : ∀ F' m' v st' a' w', Rel O w0 F0 M0 D (fun b => U b ∧ b ≠ id) F' m' sz (putT tm o.dst v) st' a' w' → K v st' → next a' w') : o.wpX P a w next Q := by
  unfold opA at hg
  split at hg
  · next r he => exact opE_ok h hU hd he hg hn
  · exact op_ok (C := fun _ => none) ctx_nil o h hU hd hg hn
end
end
end Go.Ev
/- Regions whose order is open, but for the last operation: it waits for all others, and may be any call. -/
set_option linter.unusedVariables false
set_option linter.unusedSimpArgs false
namespace Go.Ev
open Go.RowKit

section
variable {P : Program} {C : FuncId → Option Con} {sz : Nat} {ops : Array Oper} {nx : Nat}

/-- Each operation before M is waited for by a later one. -/
def CovM (ops : Array Oper) (M : Nat) : Prop := ∀ j, j < M → ∃ i o, ops[i]? = some o ∧ j < i ∧ ∃ e ∈ o.after, Region.binds .any e = true ∧ e.on = j
/-- What an operation that is done waited for is done. -/
def DCl (ops : Array Oper) (listed : Array Bool) : Prop := ∀ i o, ops[i]? = some o → listed.getD i true = true → ∀ e ∈ o.after, Region.binds .any e = true → listed.getD e.on true = true

/-- What is left to be done before the last operation. -/
structure LeftM (ops : Array Oper) (M : Nat) (listed : Array Bool) (l : List (Nat × Oper)) (fs : List FP) : Prop where
  len : l.length = fs.length
  mem : ∀ i o, (i, o) ∈ l → ops[i]? = some o ∧ i < M ∧ listed.getD i true = false
  all : ∀ i o, i < M → ops[i]? = some o → listed.getD i true = false → (i, o) ∈ l
  asc : l.Pairwise (fun p q => p.1 < q.1)
  free : ∀ (a b : Nat) (p q : Nat × Oper) (f g : FP), a < b → l[a]? = some p → l[b]? = some q → fs[a]? = some f → fs[b]? = some g → Free ops p q f g
  size : listed.size = ops.size
  lastF : listed.getD M true = false

theorem anyOrderL {M : Nat} (hM : ops.size = M + 1) (hcov : CovM ops M) (hC : CtxOK P C) {FF : Fence} (hW : Wide FF) (hahead : ∀ i o, ops[i]? = some o → ∀ e ∈ o.after, Region.binds .any e = true → e.on < i) {O : Nat → Prop} {w0 : World} {F0 : FZ} {M0 : MP} {D : List Deferred} {Q : Exit → Act → World → Prop} {tmE : TM} {stE : ST}
    (hlast : ∀ (listed : Array Bool) F m a w, listed.size = ops.size → Region.ready .any ops (listed.setIfInBounds M true) = [] → Rel O w0 F0 M0 D (fun b => nx + M ≤ b) F m sz tmE stE a w → wpOpIn FF 0 P ops Q M (wpAnyIn FF 0 P .any ops Q 0 (listed.setIfInBounds M true)) a w) :
    ∀ (n : Nat) (listed : Array Bool) (l : List (Nat × Oper)) (fs : List FP) (F : FZ) (m : MP) (tm : TM) (st : ST) (a : Act) (w : World), l.length = n → LeftM ops M listed l fs → DCl ops listed →
      Rel O w0 F0 M0 D (fun b => nx ≤ b ∧ (b < nx + ops.size → listed.getD (b - nx) true = false)) F m sz tm st a w → TrD P C sz ops nx l tm st fs → Eqv (endTm l tm fs) tmE → Eqv (endSt fs st) stE →
      wpAnyIn FF 0 P .any ops Q (n + 1) listed a w
  | 0, listed, l, fs, F, m, tm, st, a, w, hn, hL, hdc, h, ht, e1, e2 => by
    obtain rfl : l = [] := List.eq_nil_of_length_eq_zero hn
    obtain rfl : fs = [] := List.eq_nil_of_length_eq_zero (by rw [← hL.len]; rfl)
    have hall : ∀ j, j < M → listed.getD j true = true := by
      intro j hj
      cases hc : listed.getD j true with
      | true => rfl
      | false => cases hL.all j ops[j] hj (by simp) hc
    have hsz := hL.size
    refine ⟨fun hr => ?_, fun i hi => ?_⟩
    · exfalso
      have : M ∈ Region.ready .any ops listed := by
        refine mem_ready.2 ⟨hL.lastF, ops[M], by simp, fun e he hb => ?_⟩
        have hlt := hahead M ops[M] (by simp) e he hb
        rw [getD_of_lt (by omega) false true]
        exact hall _ hlt
      rw [hr] at this
      cases this
    · obtain ⟨hlist, o, ho, hpre⟩ := mem_ready.1 hi
      have hi' : i < ops.size := (Array.getElem?_eq_some_iff.1 ho).1
      have hiM : i = M := by
        rcases Nat.lt_or_ge i M with h1 | h1
        · rw [hall i h1] at hlist; cases hlist
        · omega
      subst hiM
      refine hlast listed F m a w hsz ?_ (((h.congrT fun j => (e1 j).symm).congr fun j => (e2 j).symm).weakU fun b hb => ⟨by omega, fun hb2 => by
        rw [show b - nx = i by omega]; exact hL.lastF⟩)
      cases hr : Region.ready .any ops (listed.setIfInBounds i true) with
      | nil => rfl
      | cons k rs =>
        exfalso
        obtain ⟨h1, o', ho', _⟩ := mem_ready.1 (show k ∈ Region.ready .any ops (listed.setIfInBounds i true) by rw [hr]; simp)
        have hk : k < ops.size := (Array.getElem?_eq_some_iff.1 ho').1
        by_cases hki : k = i
        · subst hki
          simp [Array.getD_eq_getD_getElem?, hsz, hk] at h1
        · rw [Array.getD_eq_getD_getElem?, Array.getElem?_setIfInBounds_ne (fun e => hki e.symm), ← Array.getD_eq_getD_getElem?, hall k (by omega)] at h1
          cases h1
  | n + 1, listed, l, fs, F, m, tm, st, a, w, hn, hL, hdc, h, ht, e1, e2 => by
    refine ⟨fun hr => ?_, fun i hi => ?_⟩
    · -- some operation is ready
      exfalso
      match l, hn with
      | (i, o) :: l, _ =>
        obtain ⟨ho, hiM, hlist⟩ := hL.mem i o (by simp)
        have : i ∈ Region.ready .any ops listed := by
          refine mem_ready.2 ⟨hlist, o, ho, fun e he hb => ?_⟩
          have hlt := hahead i o ho e he hb
          have hi : i < ops.size := (Array.getElem?_eq_some_iff.1 ho).1
          have hel : e.on < listed.size := by rw [hL.size]; omega
          rw [getD_of_lt hel false true]
          cases hc : listed.getD e.on true with
          | true => rfl
          | false =>
            have hm := hL.all e.on ops[e.on] (by omega) (by simp) hc
            have hasc := hL.asc
            simp only [List.pairwise_cons] at hasc
            rcases List.mem_cons.1 hm with hm | hm
            · have := congrArg Prod.fst hm; simp only at this; omega
            · have := hasc.1 _ hm; simp only at this; omega
        rw [hr] at this
        cases this
    · obtain ⟨hlist, o, ho, hpre⟩ := mem_ready.1 hi
      have hi0 : i < ops.size := (Array.getElem?_eq_some_iff.1 ho).1
      have hiM : i < M := by
        rcases Nat.lt_or_ge i M with h1 | h1
        · exact h1
        · exfalso
          obtain rfl : i = M := by omega
          have key : ∀ d j, j < i → i - j ≤ d → listed.getD j true = true := by
            intro d
            induction d with
            | zero => intro j h1 h2; omega
            | succ d ih =>
              intro j h1 h2
              obtain ⟨q, oq, hq, hjq, e, he, hb, rfl⟩ := hcov j h1
              have hq' : q < ops.size := (Array.getElem?_eq_some_iff.1 hq).1
              have hes : e.on < listed.size := by rw [hL.size]; omega
              by_cases hqi : q = i
              · subst hqi
                rw [ho] at hq; cases hq
                rw [getD_of_lt hes true false]
                exact hpre e he hb
              · exact hdc q oq hq (ih q (by omega) (by omega)) e he hb
          match l, hn, hL with
          | (j, oj) :: l, _, hL =>
            obtain ⟨_, hjM, hj⟩ := hL.mem j oj (by simp)
            rw [key i j hjM (by omega)] at hj
            cases hj
      have hmem := hL.all i o hiM ho hlist
      obtain ⟨l1, l2, rfl⟩ := split_at hmem
      obtain ⟨f1, f, f2, rfl, hl1, hl2⟩ := split_same hL.len
      have hi' : i < ops.size := (Array.getElem?_eq_some_iff.1 ho).1
      obtain ⟨q1, q2, q3⟩ := TrD_first hl1.symm ht (by
        intro k p g hp hg
        have hk : k < l1.length := (List.getElem?_eq_some_iff.1 hp).1
        have hfree := hL.free k l1.length p (i, o) g f hk (by rw [List.getElem?_append_left hk]; exact hp) (by simp) (by rw [List.getElem?_append_left (by omega)]; exact hg) (by rw [← hl1]; simp)
        rcases hfree with ⟨e, he, hb, hon⟩ | hind
        · exfalso
          obtain ⟨j, oj⟩ := p
          obtain ⟨_, _, hj⟩ := hL.mem j oj (List.mem_append.2 (.inl (List.mem_of_getElem? hp)))
          have := hpre e he hb
          simp only at hon
          subst hon
          have hjs : e.on < listed.size := by
            rw [hL.size]
            have := hahead i o ho e he hb
            omega
          rw [getD_of_lt hjs false true, hj] at this
          cases this
        · exact hind)
      obtain ⟨rs, us, v⟩ := f
      obtain ⟨s1, s2⟩ := q1
      obtain ⟨hd, hs⟩ := s1
      -- what is left behind this step
      have hL2 : LeftM ops M (listed.setIfInBounds i true) (l1 ++ l2) (f1 ++ f2) := by
        have hne : ∀ j o', (j, o') ∈ l1 ++ l2 → j ≠ i := by
          intro j o' hm
          have hasc := hL.asc
          rw [List.pairwise_append] at hasc
          obtain ⟨_, a2, a3⟩ := hasc
          simp only [List.pairwise_cons] at a2
          rcases List.mem_append.1 hm with hm | hm
          · have := a3 _ hm (i, o) (by simp); simp only at this; omega
          · have := a2.1 _ hm; simp only at this; omega
        refine { len := by simp [hl1, hl2], mem := ?_, all := ?_, asc := ?_, free := ?_, size := by simp [hL.size], lastF := by rw [Array.getD_eq_getD_getElem?, Array.getElem?_setIfInBounds_ne (by omega), ← Array.getD_eq_getD_getElem?]; exact hL.lastF }
        · intro j o' hm
          obtain ⟨h1, h1', h2⟩ := hL.mem j o' (by rcases List.mem_append.1 hm with hm | hm <;> simp [hm])
          refine ⟨h1, h1', ?_⟩
          rw [Array.getD_eq_getD_getElem?, Array.getElem?_setIfInBounds_ne (fun e => hne j o' hm e.symm), ← Array.getD_eq_getD_getElem?]
          exact h2
        · intro j o' hjM hj hl
          have hji : j ≠ i := by
            rintro rfl
            simp [Array.getD_eq_getD_getElem?, hL.size, hi'] at hl
          rw [Array.getD_eq_getD_getElem?, Array.getElem?_setIfInBounds_ne (fun e => hji e.symm), ← Array.getD_eq_getD_getElem?] at hl
          have := hL.all j o' hjM hj hl
          rcases List.mem_append.1 this with hm | hm
          · exact List.mem_append.2 (.inl hm)
          · cases hm with
            | head => exact absurd rfl hji
            | tail _ hm => exact List.mem_append.2 (.inr hm)
        · have hasc := hL.asc
          exact hasc.sublist (List.Sublist.append_left (List.sublist_cons_self _ _) _)
        · intro x y p q f' g hxy hp hq hf hg
          -- positions with the step taken out
          have up : ∀ {α : Type} {A B : List α} {c : α} {k : Nat} {z : α}, (A ++ B)[k]? = some z → (A ++ c :: B)[if k < A.length then k else k + 1]? = some z := by
            intro α A B c k z hz
            by_cases hk : k < A.length
            · rw [if_pos hk, List.getElem?_append_left hk]
              rwa [List.getElem?_append_left hk] at hz
            · rw [if_neg hk, List.getElem?_append_right (by omega)]
              rw [List.getElem?_append_right (by omega)] at hz
              have : k + 1 - A.length = k - A.length + 1 := by omega
              rw [this, List.getElem?_cons_succ]
              exact hz
          have hp' := up (c := (i, o)) hp
          have hq' := up (c := (i, o)) hq
          have hf' := up (c := ((rs, us, v) : FP)) hf
          have hg' := up (c := ((rs, us, v) : FP)) hg
          rw [hl1] at hf' hg'
          refine hL.free _ _ p q f' g ?_ hp' hq' hf' hg'
          split <;> split <;> omega
      have hdc2 : DCl ops (listed.setIfInBounds i true) := by
        intro j oj hj hl e he hb
        have hjs : j < ops.size := (Array.getElem?_eq_some_iff.1 hj).1
        have up : listed.getD e.on true = true → (listed.setIfInBounds i true).getD e.on true = true := by
          intro hx
          by_cases hei : e.on = i
          · rw [hei]; simp [Array.getD_eq_getD_getElem?, hL.size, hi0]
          · rw [Array.getD_eq_getD_getElem?, Array.getElem?_setIfInBounds_ne (fun q => hei q.symm), ← Array.getD_eq_getD_getElem?]; exact hx
        by_cases hji : j = i
        · subst hji
          rw [ho] at hj; cases hj
          have hlt := hahead j o ho e he hb
          refine up ?_
          rw [getD_of_lt (by rw [hL.size]; omega) true false]
          exact hpre e he hb
        · rw [Array.getD_eq_getD_getElem?, Array.getElem?_setIfInBounds_ne (fun q => hji q.symm), ← Array.getD_eq_getD_getElem?] at hl
          exact up (hdc j oj hj hl e he hb)
      have hU : ∀ b, (nx ≤ b ∧ (b < nx + ops.size → (listed.setIfInBounds i true).getD (b - nx) true = false)) → (nx ≤ b ∧ (b < nx + ops.size → listed.getD (b - nx) true = false)) ∧ b ≠ nx + i := by
        rintro b ⟨h1, h2⟩
        have hne : b ≠ nx + i := by
          rintro rfl
          have := h2 (by omega)
          rw [show nx + i - nx = i by omega] at this
          simp [Array.getD_eq_getD_getElem?, hL.size, hi'] at this
        refine ⟨⟨h1, fun hb => ?_⟩, hne⟩
        have := h2 hb
        rw [Array.getD_eq_getD_getElem?, Array.getElem?_setIfInBounds_ne (by omega), ← Array.getD_eq_getD_getElem?] at this
        exact this
      have next : ∀ F' m' a' w', Rel O w0 F0 M0 D (fun b => (nx ≤ b ∧ (b < nx + ops.size → listed.getD (b - nx) true = false)) ∧ b ≠ nx + i) F' m' sz (putT tm o.dst v) (us ++ st) a' w' →
          wpAnyIn FF 0 P .any ops Q (n + 1) (listed.setIfInBounds i true) a' w' := by
        intro F' m' a' w' hR
        exact anyOrderL hM hcov hC hW hahead hlast n _ (l1 ++ l2) (f1 ++ f2) F' m' _ _ a' w' (by simp at hn ⊢; omega) hL2 hdc2 (hR.weakU hU) s2 (fun j => (q2 j).trans (e1 j)) (fun j => (q3 j).trans (e2 j))
      have run : (opR P C (nx + i) (ev tm) o.op).ex (look st) rs us v → o.wpIn FF 0 P a w (wpAnyIn FF 0 P .any ops Q (n + 1) (listed.setIfInBounds i true)) Q := by
        intro hx
        refine op_ok hC o h (id := nx + i) ⟨by omega, fun _ => by rw [show nx + i - nx = i by omega]; exact hlist⟩ hd
          (K := fun v' st' => v' = v ∧ st' = us ++ st) (RM.ex_go _ _ _ _ _ _ hx ⟨rfl, rfl⟩) ?_ FF hW
        rintro F' m' v' st' a' w' hR ⟨rfl, rfl⟩
        exact next F' m' a' w' hR
      unfold wpOpIn
      simp only [ho]
      cases hg : o.guard with
      | none =>
        have hw : Region.wanted o (yielded ops a.tmps) = true := by simp [Region.wanted, hg]
        rw [if_pos hw]
        rw [hg] at hs
        exact run hs
      | some jw =>
        obtain ⟨j, want⟩ := jw
        rw [hg] at hs
        obtain ⟨d, d1, ⟨b, d2, d3⟩ | ⟨⟨arr, d2⟩, rfl, rfl, rfl⟩⟩ := hs
        rotate_left
        · have hy := yielded_not h d1 d2
          have hw : ¬ Region.wanted o (yielded ops a.tmps) = true := by simp [Region.wanted, hg, hy]
          rw [if_neg hw]
          exact ⟨fun f _ => hW.fn f, next F m _ w ((h.weakU fun b hb => hb.1).put hd (c := vU) rfl)⟩
        have hy := yielded_of h d1 d2
        by_cases hbw : b = want
        · have hw : Region.wanted o (yielded ops a.tmps) = true := by simp [Region.wanted, hg, hy, hbw]
          rw [if_pos hw]
          rw [if_pos hbw] at d3
          exact run d3
        · have hw : ¬ Region.wanted o (yielded ops a.tmps) = true := by simp [Region.wanted, hg, hy, hbw]
          rw [if_neg hw]
          rw [if_neg hbw] at d3
          obtain ⟨rfl, rfl, rfl⟩ := d3
          exact ⟨fun f _ => hW.fn f, next F m _ w ((h.weakU fun b hb => hb.1).put hd (c := vU) rfl)⟩


def covB (ops : Array Oper) (M : Nat) : Bool := (List.range M).all fun j => (enumL 0 ops.toList).any fun p => Nat.blt j p.1 && p.2.after.any fun e => Region.binds .any e && Nat.beq e.on j
theorem covB_eq {M : Nat} (h : covB ops M = true) : CovM ops M := by
  intro j hj
  have := List.all_eq_true.1 h j (List.mem_range.2 hj)
  obtain ⟨⟨i, o⟩, hm, hp⟩ := List.any_eq_true.1 this
  simp only [Bool.and_eq_true] at hp
  obtain ⟨h1, h2⟩ := hp
  obtain ⟨_, h3⟩ := enumL_mem.1 hm
  rw [Array.any_eq_true'] at h2
  obtain ⟨e, he, h4⟩ := h2
  simp only [Bool.and_eq_true] at h4
  exact ⟨i, o, by simpa using h3, of_eq_true ((Nat.blt_eq (x := j) (y := i)).symm.trans (eq_true h1)), e, he, h4.1, Nat.eq_of_beq_eq_true h4.2⟩

/-- A REGION WHOSE ORDER IS OPEN, BUT FOR ITS LAST OPERATION. -/
theorem evOpsL_sound {M : Nat} (hM : ops.size = M + 1) (hcov : covB ops M = true) (hC : CtxOK P C) {FF : Fence} (hW : Wide FF) (hm : P.follows .mixedOrders = true) (hah : aheadB ops.toList = true) {O : Nat → Prop} {w0 : World} {F0 : FZ} {M0 : MP} {D : List Deferred} {Q : Exit → Act → World → Prop} {K : TM → ST → Prop} {id : Nat}
    {F : FZ} {m : MP} {tm : TM} {st : ST} {a : Act} {w : World} (h : Rel O w0 F0 M0 D (fun b => nx ≤ b) F m sz tm st a w) (hg : evOpsD P C sz ops nx (ops.toList.take M) 0 tm st [] K)
    (hn : ∀ F' m' tm' st' a' w' (next : Act → World → Prop), Rel O w0 F0 M0 D (fun b => nx + M ≤ b) F' m' sz tm' st' a' w' → K tm' st' → (∀ a1 w1, Q .normal a1 w1 → next a1 w1) → wpOpIn FF 0 P ops Q M next a' w') : (Code.region id ops true).wpIn FF 0 P Q a w := by
  obtain ⟨fs, q1, q2, q3, q4, _⟩ := evOpsD_tr (ops.toList.take M) 0 tm st [] hg
  have hlen : (ops.toList.take M).length = M := by simp; omega
  refine wpIn_region_any hm ?_
  rw [hM]
  refine anyOrderL hM (covB_eq hcov) hC hW ?_ (fun listed F' m' a' w' hs hr hR => hn F' m' _ _ a' w' _ hR q3 fun a1 w1 hq => ⟨hr, hq⟩) M _ (enumL 0 (ops.toList.take M)) fs F m tm st a _ (by rw [enumL_length, hlen]) ?_ ?_ ?_ q2 (fun _ => rfl) (fun _ => rfl)
  · intro i o ho e he hb
    have := List.all_eq_true.1 hah (i, o) (enumL_mem.2 ⟨by omega, by simpa using ho⟩)
    simp only [Array.all_eq_true_iff_forall_mem] at this
    have := this e he
    simpa [hb] using this
  · refine { len := by rw [enumL_length, q1], mem := ?_, all := ?_, asc := enumL_asc _ _, free := q4, size := by simp [hM], lastF := by simp [Array.getD_eq_getD_getElem?] }
    · intro i o hm
      obtain ⟨_, h2⟩ := enumL_mem.1 hm
      rw [Nat.sub_zero, List.getElem?_take] at h2
      split at h2
      · next hi =>
        exact ⟨by simpa using h2, hi, by simp [Array.getD_eq_getD_getElem?, show i < M + 1 by omega]⟩
      · cases h2
    · intro i o hi ho _
      exact enumL_mem.2 ⟨by omega, by rw [Nat.sub_zero, List.getElem?_take, if_pos hi]; simpa using ho⟩
  · intro i o ho hl
    have hi : i < ops.size := (Array.getElem?_eq_some_iff.1 ho).1
    simp [Array.getD_eq_getD_getElem?, show i < M + 1 by omega] at hl
  · refine Rel.drew (h.weakU fun b hb => hb.1)
end
end Go.Ev
/- The evaluator, run: a program over values, with boxes; calls are followed, ranges over functions too. -/
set_option linter.unusedVariables false
namespace Go.Ev
open Go.RowKit
noncomputable section

def RM.x : RM → ST → Option (V × ST)
  | .fail, _ => none
  | .ret v, st => some (v, st)
  | .req _ _, _ => none
  | @RM.dec p k d, st => match d with
    | .isTrue _ => k.x st
    | .isFalse _ => none
  | .exi _ _ _, _ => none
  | .get b k, st => match look st b with
    | some y => (k y).x st
    | none => none
  | .put b y k, st => k.x ((b, y) :: st)

def RM.xT : RM → ST → List Nat → List Nat → Option (V × ST × List Nat × List Nat)
  | .fail, _, _, _ => none
  | .ret v, st, rs, ws => some (v, st, rs, ws)
  | .req _ _, _, _, _ => none
  | @RM.dec p k d, st, rs, ws => match d with
    | .isTrue _ => k.xT st rs ws
    | .isFalse _ => none
  | .exi _ _ _, _, _, _ => none
  | .get b k, st, rs, ws => match look st b with
    | some y => (k y).xT st (b :: rs) ws
    | none => none
  | .put b y k, st, rs, ws => k.xT ((b, y) :: st) rs (b :: ws)

theorem RM.x_go {K : V → ST → Prop} : ∀ (r : RM) (st : ST) (v : V) (st' : ST), r.x st = some (v, st') → K v st' → r.go st K
  | .fail, _, _, _, h, _ => by cases h
  | .ret _, _, _, _, h, hk => by cases h; exact hk
  | .req _ _, _, _, _, h, _ => by cases h
  | @RM.dec p k d, st, v, st', h, hk => by
    cases d with
    | isTrue hp => exact ⟨hp, x_go k st v st' h hk⟩
    | isFalse _ => cases h
  | .exi _ _ _, _, _, _, h, _ => by cases h
  | .get b k, st, v, st', h, hk => by
    simp only [RM.x] at h
    simp only [RM.go]
    split at h
    · next y hy => simp only [hy]; exact x_go (k y) st v st' h hk
    · cases h
  | .put b y k, st, v, st', h, hk => x_go k _ v st' h hk

/-! ### The same values, reckoned out -/
section
variable {β : Type}
def kN (n : Nat) (k : Nat → β) : β := match n with
  | 0 => k 0
  | m + 1 => k (Nat.succ m)
def kI (n : Int) (k : Int → β) : β := match n with
  | .ofNat m => kN m fun m => k (.ofNat m)
  | .negSucc m => kN m fun m => k (.negSucc m)
def kB (b : Bool) (k : Bool → β) : β := match b with
  | true => k true
  | false => k false
/-- The head of a value, and its number. -/
def kV0 (c : V) (k : V → β) : β := match c with
  | .top => k .top
  | .v (.int j n) => kI n fun n => k (.v (.int j n))
  | .v (.bool b) => kB b fun b => k (.v (.bool b))
  | .v x => k (.v x)
  | .agg cs => k (.agg cs)
  | .tup cs => k (.tup cs)
  | .sl cs n => k (.sl cs n)
  | .fptr cs => k (.fptr cs)
  | .fn g caps => k (.fn g caps)
  | .box b off => kN b fun b => kN off fun off => k (.box b off)
  | .osl b n => kN b fun b => kN n fun n => k (.osl b n)
  | .yld b => kN b fun b => k (.yld b)
  | .ag cs => k (.ag cs)
def kL : List V → (List V → β) → β
  | [], k => k []
  | c :: cs, k => kV0 c fun c => kL cs fun cs => k (c :: cs)
/-- A value and its cells. -/
def kV (c : V) (k : V → β) : β := match c with
  | .agg cs => kL cs fun cs => k (.agg cs)
  | .tup cs => kL cs fun cs => k (.tup cs)
  | .sl cs n => kL cs fun cs => kN n fun n => k (.sl cs n)
  | .fptr cs => kL cs fun cs => k (.fptr cs)
  | .fn g caps => kL caps fun caps => k (.fn g caps)
  | c => kV0 c k
def kS (st : ST) (k : ST → β) : β := match st with
  | (b, .var cs f) :: st => kL cs fun cs => k ((b, .var cs f) :: st)
  | (b, .row e size cs p) :: st => kL cs fun cs => kN p fun p => k ((b, .row e size cs p) :: st)
  | st => k st

theorem kN_eq (n : Nat) (k : Nat → β) : kN n k = k n := by cases n <;> rfl
theorem kI_eq (n : Int) (k : Int → β) : kI n k = k n := by cases n <;> simp only [kI, kN_eq]
theorem kB_eq (b : Bool) (k : Bool → β) : kB b k = k b := by cases b <;> rfl
theorem kV0_eq (c : V) (k : V → β) : kV0 c k = k c := by
  unfold kV0
  split <;> simp only [kN_eq, kI_eq, kB_eq]
theorem kL_eq : ∀ (cs : List V) (k : List V → β), kL cs k = k cs
  | [], k => rfl
  | c :: cs, k => by simp only [kL, kV0_eq, kL_eq cs]
theorem kV_eq (c : V) (k : V → β) : kV c k = k c := by
  unfold kV
  split <;> simp only [kN_eq, kL_eq, kV0_eq]
theorem kS_eq (st : ST) (k : ST → β) : kS st k = k st := by
  unfold kS
  split <;> simp only [kN_eq, kL_eq]
end

/-- A call: what is called, its arguments, the boxes, the first new number. -/
abbrev XH := V → List V → ST → Nat → Option (V × ST × Nat)

def want (all : List Oper) (tm : TM) : Option (Nat × Bool) → Option Bool
  | none => some true
  | some (j, w) => match (all[j]?).bind (·.dst) with
    | none => none
    | some d => match (look tm d).getD .top with
      | .v (.bool b) => some (b == w)
      | .v (.tuple _) => some false
      | _ => none

/-- The state of an activation: its slots, its marks, the boxes, the first new number. -/
structure XS where
  tm : TM
  ds : List Nat
  st : ST
  nx : Nat
  b0 : Nat

/-- Is a number on a list? -/
def memN (l : List Nat) (j : Nat) : Bool := List.rec (motive := fun _ => Bool) false (fun b _ ih => Bool.rec (motive := fun _ => Bool) ih true (Nat.beq b j)) l

def tidyT : Nat → TM → TM
  | 0, _ => []
  | n + 1, tm => match look tm n with
    | some v => kV0 v fun v => (n, v) :: tidyT n tm
    | none => tidyT n tm
/-- The boxes each once, as far as the activation's own. -/
def tidyS (b0 : Nat) : List Nat → ST → ST
  | _, [] => []
  | seen, (b, x) :: st => match Nat.beq b b0 with
    | true => (b, x) :: st
    | false => match memN seen b with
      | true => tidyS b0 seen st
      | false => (b, x) :: tidyS b0 (b :: seen) st
def tidy (sz : Nat) (s : XS) : XS := ⟨tidyT sz s.tm, s.ds, tidyS s.b0 [] s.st, s.nx, s.b0⟩

/-- The boxes that a value, a box leads to. -/
def refs1 : V → List Nat
  | .box b _ => [b]
  | .osl b _ => [b]
  | .yld b => [b]
  | _ => []
def refs : V → List Nat
  | .fn _ caps => caps.flatMap refs1
  | c => refs1 c
def refsX : Bx → List Nat
  | .var cs _ => cs.flatMap refs
  | .loop r => r.tm.flatMap fun p => refs p.2
  | _ => []
def front (b0 : Nat) : ST → ST
  | [] => []
  | (b, x) :: st => match Nat.beq b b0 with
    | true => []
    | false => (b, x) :: front b0 st
def clo (fr : ST) : Nat → List Nat → List Nat → List Nat
  | 0, _, kept => kept
  | _ + 1, [], kept => kept
  | n + 1, b :: work, kept => match memN kept b with
    | true => clo fr n work kept
    | false => match look fr b with
      | some x => clo fr n (refsX x ++ work) (b :: kept)
      | none => clo fr n work kept
def sieve (p : Nat → Bool) (st : ST) : ST := List.rec (motive := fun _ => ST) [] (fun e _ ih => Bool.rec (motive := fun _ => ST) ih (e :: ih) (p e.1)) st
/-- Boxes of an activation that is over are given up, but for those that it leaves behind. -/
def sweep (top : Nat) (r : V) (st : ST) : ST :=
  let fr := front top st
  let kept := clo fr 1000 (refs r ++ fr.flatMap fun e => match Nat.blt e.1 top with | true => refsX e.2 | false => []) []
  sieve (fun b => Bool.rec (motive := fun _ => Bool) (memN kept b) true (Nat.blt b top)) st

def xloop (f : XS → Option (AX × XS)) (sz : Nat) : Nat → XS → Option (AX × XS)
  | 0, _ => none
  | n + 1, s => match f (tidy sz s) with
    | some (.normal, s') => xloop f sz n s'
    | some (.exit i, s') => some (.exit i, s')
    | some (.ret, s') => some (.ret, s')
    | none => none

section
variable (P : Program) (H : XH) (X : FuncId → Option (List V → Option V))

def xop (top : Nat) (tm : TM) (st : ST) : Op → Option (V × ST × Nat)
  | .call { callee := .value f, args, .. } => H (ev tm f) (args.toList.map (ev tm)) st top
  | .move x => some (ev tm x, st, top)
  | .assign x => some (ev tm x, st, top)
  | op => match (opA P top (ev tm) op).x st with
    | some (v, st') => kV v fun v => kS st' fun st' => kN (top + 1) fun top' => some (v, st', top')
    | none => none

def xops (sz : Nat) (all : List Oper) : List Oper → Nat → TM → ST → Option (TM × ST × Nat)
  | [], top, tm, st => some (tm, st, top)
  | o :: os, top, tm, st => match okDst sz o.dst with
    | false => none
    | true => match want all tm o.guard with
      | none => none
      | some false => xops sz all os top (putT tm o.dst vU) st
      | some true => match xop P H top tm st o.op with
        | none => none
        | some (v, st', top') => xops sz all os top' (putT tm o.dst v) st'

def xopT (id : Nat) (tm : TM) : Op → RM
  | .call { callee := .value f, args, .. } => match ev tm f with
    | .fn g caps => match X g with
      | some f => fzs (args.toList.map (ev tm) ++ caps) fun avs => match f avs with
        | some r => .retF r
        | none => .fail
      | none => .fail
    | _ => .fail
  | op => opR P (fun _ => none) id (ev tm) op

def xopsD (sz : Nat) (ops : Array Oper) (nx : Nat) : List Oper → Nat → TM → ST → List (Nat × Oper × List Nat × List Nat) → Option (TM × ST)
  | [], _, tm, st, _ => some (tm, st)
  | o :: os, i, tm, st, prev => match okDst sz o.dst with
    | false => none
    | true => match want ops.toList tm o.guard with
      | none => none
      | some true => match (xopT P X (nx + i) tm o.op).xT st [] [] with
        | none => none
        | some (v, st', rs, ws) => match indepB ops o rs ws prev with
          | false => none
          | true => xopsD sz ops nx os (i + 1) (putT tm o.dst v) st' ((i, o, rs, ws) :: prev)
      | some false => match indepB ops o [] [] prev with
        | false => none
        | true => xopsD sz ops nx os (i + 1) (putT tm o.dst vU) st ((i, o, [], []) :: prev)

/-- A region whose order is open, but for its last operation. -/
def xlast (sz : Nat) (ops : Array Oper) (s : XS) : Option (AX × XS) := match ops.size with
  | 0 => none
  | M + 1 => match covB ops M with
    | false => none
    | true => match ops.toList[M]? with
      | none => none
      | some o => match o.guard with
        | some _ => none
        | none => match okDst sz o.dst with
          | false => none
          | true => match xopsD P X sz ops s.nx (ops.toList.take M) 0 s.tm s.st [] with
            | none => none
            | some (tm, st) => kN (s.nx + M) fun top => match xop P H top tm st o.op with
              | some (v, st', top') => some (.normal, ⟨putT tm o.dst v, s.ds, st', top', s.b0⟩)
              | none => none

/-- A range over a function is begun: its record; outside a round a mark, too. -/
def xenter (rd : Option Nat) (r : Bx) (s : XS) : Option XS := match rd with
  | none => some ⟨s.tm, (s.nx + 1) :: s.ds, (s.nx, r) :: (s.nx + 1, .mark true) :: s.st, s.nx + 2, s.b0⟩
  | some b => match look s.st b with
    | some (.loop _) => some ⟨s.tm, s.ds, (s.nx, r) :: s.st, s.nx + 1, s.b0⟩
    | _ => none

def isBusy : LoopState → Bool
  | .busy => true
  | _ => false
def isReady : LoopState → Bool
  | .ready => true
  | _ => false

/-- rd: in a round of this range over a function. -/
def xcode (fuel sz : Nat) (rd : Option Nat) : Code → XS → Option (AX × XS)
  | .skip, s => some (.normal, s)
  | .region _ ops false, s => match xops P H sz ops.toList ops.toList s.nx s.tm s.st with
    | some (tm, st, nx) => some (.normal, ⟨tm, s.ds, st, nx, s.b0⟩)
    | none => none
  | .region _ ops true, s => match aheadB ops.toList with
    | false => none
    | true => match xopsD P X sz ops s.nx ops.toList 0 s.tm s.st [] with
      | some (tm, st) => kN (s.nx + ops.size) fun nx => some (.normal, ⟨tm, s.ds, st, nx, s.b0⟩)
      | none => xlast P H X sz ops s
  | .seq a b, s => match xcode fuel sz rd a s with
    | some (.normal, s') => xcode fuel sz rd b s'
    | some (.exit i, s') => some (.exit i, s')
    | some (.ret, s') => some (.ret, s')
    | none => none
  | .cond c x y, s => match ev s.tm c with
    | .v (.bool true) => xcode fuel sz rd x s
    | .v (.bool false) => xcode fuel sz rd y s
    | _ => none
  | .block i c, s => match xcode fuel sz rd c s with
    | some (.exit j, s') => match Nat.beq j i with
      | true => some (.normal, s')
      | false => some (.exit j, s')
    | some (.normal, s') => some (.normal, s')
    | some (.ret, s') => some (.ret, s')
    | none => none
  | .loop c, s => xloop (fun s => xcode fuel sz rd c s) sz fuel s
  | .exit i, s => some (.exit i, s)
  | .ret, s => some (.ret, s)
  | .rangeFunc f ps assign body, s =>
    match xenter rd (.loop ⟨s.tm, sz, ps, assign, body, .ready, none⟩) s with
    | none => none
    | some s1 => match ev s.tm f with
      | .fn g caps => match H (.fn g caps) [.yld s.nx] s1.st s1.nx with
        | some (_, st2, nx2) => match look st2 s.nx with
          | some (.loop r2) => match isBusy r2.state with
            | true => none
            | false => match r2.pending with
              | none => some (.normal, ⟨s.tm, s1.ds, (s.nx, .loop { r2 with state := .exhausted }) :: st2, nx2, s.b0⟩)
              | some (.exit i) => some (.exit i, ⟨s.tm, s1.ds, (s.nx, .loop { r2 with state := .exhausted }) :: st2, nx2, s.b0⟩)
              | some .ret => some (.ret, ⟨s.tm, s1.ds, (s.nx, .loop { r2 with state := .exhausted }) :: st2, nx2, s.b0⟩)
              | _ => none
          | _ => none
        | none => none
      | _ => none
  | _, _ => none

/-- The results: one as it is; several made clean. -/
def xres (fn : Func) (tm : TM) (st : ST) : Option (V × ST) := match fn.results.toList with
  | [.tmp t] => some ((look tm t).getD .top, st)
  | [.cell a t] => (opR P (fun _ => none) 0 (ev tm) (.load t (.tmp a))).x st
  | l => (resR P tm l []).x st

def xmarks : List Nat → ST → Option ST
  | [], st => some st
  | b :: ds, st => match look st b with
    | some (.mark true) => xmarks ds ((b, .mark false) :: st)
    | _ => none

/-- A function is entered. -/
def xfn (fuel : Nat) (fn : Func) (c : Code) (args : List V) (st : ST) (top : Nat) : Option (V × ST × Nat) :=
  match Nat.ble args.length fn.ntmps with
  | false => none
  | true => match xcode P H X fuel fn.ntmps none c ⟨startT args, [], (top, .dead) :: st, top + 1, top⟩ with
    | none => none
    | some (.exit _, _) => none
    | some (_, s) => match xmarks s.ds s.st with
      | none => none
      | some st1 => match xres P fn s.tm st1 with
        | none => none
        | some (r, st2) => kV0 r fun r => some (r, sweep top r st2, s.nx)

/-- A round of a range over a function. -/
def xround (fuel : Nat) (b : Nat) (args : List V) (st : ST) (top : Nat) : Option (V × ST × Nat) := match look st b with
  | some (.loop r) => match isReady r.state with
    | true => match Nat.beq args.length r.ps.size && r.ps.toList.all fun p => Nat.ble (p + 1) r.sz with
      | false => none
      | true => match xcode P H X fuel r.sz (some b) r.assign ⟨(r.ps.toList.zip args).foldl (fun t p => p :: t) r.tm, [], (top, .dead) :: st, top + 1, top⟩ with
        | some (.normal, s1) => match look s1.st b with
          | some (.loop r1) => match isReady r1.state with
            | true => match xcode P H X fuel r.sz (some b) r.body ⟨s1.tm, s1.ds, (b, .loop { r1 with state := .busy }) :: s1.st, s1.nx, s1.b0⟩ with
              | none => none
              | some (e, s2) => match look s2.st b with
                | some (.loop r2) => match e with
                  | .normal => some (.v (.bool true), sweep top .top ((b, .loop { r2 with state := .ready, pending := none }) :: s2.st), s2.nx)
                  | .exit i => some (.v (.bool false), sweep top .top ((b, .loop { r2 with state := .done, pending := some (.exit i) }) :: s2.st), s2.nx)
                  | .ret => some (.v (.bool false), sweep top .top ((b, .loop { r2 with state := .done, pending := some .ret }) :: s2.st), s2.nx)
                | _ => none
            | false => none
          | _ => none
        | _ => none
    | false => none
  | _ => none
end


/-- The functions that are followed. -/
abbrev XG := FuncId → Option Func

/-- A call on clean values, with no boxes. -/
def xpure (P : Program) (H : XH) (g : FuncId) (avs : List V) : Option V := match H (.fn g []) avs [] 0 with
  | some (r, st, _) => ((fz 4 r .ret).x st).map (·.1)
  | none => none

def xpures (P : Program) (G : XG) (H : XH) (g : FuncId) : Option (List V → Option V) := match G g with
  | some _ => some (xpure P H g)
  | none => none

/-- Calls, to a depth. -/
def xcall (P : Program) (G : XG) (fuel : Nat) : Nat → XH
  | 0 => fun _ _ _ _ => none
  | n + 1 => fun c avs st top => match c with
    | .fn g caps => match G g with
      | some fn => match fn.body with
        | some code => xfn P (xcall P G fuel n) (xpures P G (xcall P G fuel n)) fuel fn code (avs ++ caps) st top
        | none => none
      | none => none
    | .yld b => xround P (xcall P G fuel n) (xpures P G (xcall P G fuel n)) fuel b avs st top
    | _ => none

end
end Go.Ev
/- The evaluator's runs are the model's: operations, regions. -/
set_option linter.unusedVariables false
set_option linter.unusedSimpArgs false
namespace Go.Ev
open Go.RowKit

section
variable {O : Nat → Prop} {w0 : World} {F0 : FZ} {M0 : MP} {D : List Deferred} {U : Nat → Prop} {F : FZ} {m : MP} {sz : Nat} {tm : TM} {st : ST} {a : Act} {w : World}

theorem Rel.act (h : Rel O w0 F0 M0 D U F m sz tm st a w) {D' : List Deferred} {sz' : Nat} {tm' : TM} {a' : Act} (htm : ∀ i, RV m F w.heap ((look tm' i).getD .top) (a'.tmps.getD i undef)) (hsz : a'.tmps.size = sz') (hde : a'.defers = D') :
    Rel O w0 F0 M0 D' U F m sz' tm' st a' w :=
  { htm := htm, hsz := hsz, hde := hde, hst := h.hst, inj := h.inj, fresh := h.fresh, f0 := h.f0, f1 := h.f1, f2 := h.f2, mlt := h.mlt, pin := h.pin, keep := h.keep, below := h.below, hb := h.hb }

/-- Seen from here on. -/
theorem Rel.base (h : Rel O w0 F0 M0 D U F m sz tm st a w) : Rel O w F m D U F m sz tm st a w :=
  { htm := h.htm, hsz := h.hsz, hde := h.hde, hst := h.hst, inj := h.inj, fresh := h.fresh, f0 := fun _ _ e => e, f1 := fun _ _ e => .inl e, f2 := h.f2, mlt := h.mlt, pin := fun _ _ e => e, keep := Keeps.refl _ _, below := Own.refl _ _, hb := fun g hg => h.hb g (Nat.le_trans h.below.size hg) }

theorem Rel.comp (h : Rel O w0 F0 M0 D U F m sz tm st a w) {D' : List Deferred} {U' : Nat → Prop} {F' : FZ} {m' : MP} {sz' : Nat} {tm' : TM} {st' : ST} {a' : Act} {w' : World} (k : Rel O w F m D' U' F' m' sz' tm' st' a' w') :
    Rel O w0 F0 M0 D' U' F' m' sz' tm' st' a' w' :=
  { htm := k.htm, hsz := k.hsz, hde := k.hde, hst := k.hst, inj := k.inj, fresh := k.fresh, f0 := fun g j e => k.f0 g j (h.f0 g j e), f1 := fun g j e => (k.f1 g j e).elim (h.f1 g j) .inr, f2 := k.f2, mlt := k.mlt, pin := fun b y e => k.pin b y (h.pin b y e),
    keep := fun g j e => (k.keep g j (h.f0 g j e)).trans (h.keep g j e), below := h.below.trans k.below, hb := h.hb }

/-- The memory alone. -/
abbrev RelH (O : Nat → Prop) (w0 : World) (F0 : FZ) (M0 : MP) (top : Nat) (F : FZ) (m : MP) (st : ST) (w : World) : Prop := Rel O w0 F0 M0 [] (fun b => top ≤ b) F m 0 [] st ⟨#[], []⟩ w

theorem Rel.toH {top : Nat} (h : Rel O w0 F0 M0 D (fun b => top ≤ b) F m sz tm st a w) : RelH O w F m top F m st w := h.base.act (fun i => trivial) rfl rfl

theorem Rel.heap {top : Nat} (h : Rel O w0 F0 M0 D (fun b => top ≤ b) F m sz tm st a w) : RelH O w0 F0 M0 top F m st w := h.act (tm' := []) (a' := ⟨#[], []⟩) (fun i => trivial) rfl rfl

theorem Rel.back (h : Rel O w0 F0 M0 D U F m sz tm st a w) {top' : Nat} {F' : FZ} {m' : MP} {st' : ST} {w' : World} (k : RelH O w F m top' F' m' st' w') : Rel O w0 F0 M0 D (fun b => top' ≤ b) F' m' sz tm st' a w' :=
  (h.comp k).act (fun i => (h.htm i).mono k.pin k.f0 k.keep) h.hsz h.hde

/-- A new object. -/
theorem Rel.newO (h : Rel O w0 F0 M0 D U F m sz tm st a w) {id cap : Nat} (hU : U id) {o : Obj} {x : Bx} (hx : x ≠ .dead)
    (hbx : ∀ m', (∀ b y, m b = some y → m' b = some y) → m' id = some (w.heap.size, cap) → Keeps F w.heap (w.alloc o).heap →
      (w.alloc o).heap[w.heap.size]? = some o → (∀ j, ¬ F w.heap.size j) → RBx O m' F (w.alloc o).heap id x) :
    Rel O w0 F0 M0 D (fun b => U b ∧ b ≠ id) F (fun b => if b = id then some (w.heap.size, cap) else m b) sz tm ((id, x) :: st) a (w.alloc o) ∧
    (∀ b y, m b = some y → (fun b => if b = id then some (w.heap.size, cap) else m b) b = some y) ∧ Keeps F w.heap (w.alloc o).heap := by
  have hm : ∀ b y, m b = some y → (fun b => if b = id then some (w.heap.size, cap) else m b) b = some y := by
    intro b y hb
    by_cases e : b = id
    · subst e; rw [(h.fresh b hU).2] at hb; cases hb
    · simp [e, hb]
  have hold : ∀ k, k < w.heap.size → (w.alloc o).heap[k]? = w.heap[k]? := fun k hk => Below.heap_alloc w _ _ hk
  have hk : Keeps F w.heap (w.alloc o).heap := fun g j hj => by rw [cellsAt_congr (hold g (h.f2 g j hj))]
  refine ⟨?_, hm, hk⟩
  refine { htm := fun i => (h.htm i).mono hm (fun _ _ e => e) hk, hsz := h.hsz, hde := h.hde, hst := ?_, inj := ?_, fresh := ?_, keep := fun g j hj => (hk g j (h.f0 _ _ hj)).trans (h.keep g j hj), pin := fun b y e => hm b y (h.pin b y e), f0 := h.f0, f1 := h.f1, f2 := ?_, mlt := ?_, below := h.below.alloc h.hb _, hb := h.hb }
  · intro b y hy
    rw [look_cons] at hy
    split at hy
    · next e =>
      subst e; cases hy
      exact hbx _ hm (by simp) hk (by have := heap_alloc_new w o; exact this) (fun j hj => absurd (h.f2 _ _ hj) (by omega))
    · next hne =>
      refine (h.hst b y hy).mono hm (fun _ _ e => e) hk (fun g c hg => ⟨hold g (h.mlt _ _ _ hg), fun j hj => hj⟩) (fun e => by simp [show b ≠ id from fun e' => hne e'.symm, e])
  · intro b b' g c c' ha ha' hg hg'
    by_cases e : b = id
    · by_cases e' : b' = id
      · rw [e, e']
      · simp only [e, if_true, Option.some.injEq, Prod.mk.injEq] at hg
        simp only [e', if_false] at hg'
        exact absurd (h.mlt _ _ _ hg') (by omega)
    · by_cases e' : b' = id
      · simp only [e', if_true, Option.some.injEq, Prod.mk.injEq] at hg'
        simp only [e, if_false] at hg
        exact absurd (h.mlt _ _ _ hg) (by omega)
      · simp only [e, if_false] at hg
        simp only [e', if_false] at hg'
        have al : ∀ b, b ≠ id → aliveB ((id, x) :: st) b → aliveB st b := by
          rintro b hb ⟨y, hy, hy0⟩
          rw [look_cons, if_neg (fun e => hb e.symm)] at hy
          exact ⟨y, hy, hy0⟩
        exact h.inj b b' g c c' (al b e ha) (al b' e' ha') hg hg'
  · rintro b ⟨hb, hne⟩
    refine ⟨?_, by simp [hne, (h.fresh b hb).2]⟩
    rw [look_cons, if_neg (fun e => hne e.symm)]
    exact (h.fresh b hb).1
  · intro g j hj
    have := h.f2 g j hj
    simp; omega
  · intro b g c hb
    by_cases e : b = id
    · simp only [e, if_true, Option.some.injEq, Prod.mk.injEq] at hb
      simp; omega
    · simp only [e, if_false] at hb
      have := h.mlt _ _ _ hb
      simp; omega

/-- An object that is no cells is written. -/
theorem Rel.putO (h : Rel O w0 F0 M0 D U F m sz tm st a w) {b g c : Nat} {x0 x1 : Bx} (hl : look st b = some x0) (h0 : x0 ≠ .dead) (h1 : x1 ≠ .dead) (hm : m b = some (g, c)) (hg : O g) (hF : ∀ j, ¬ F g j) {o : Obj}
    (hx : Keeps F w.heap (w.putObj g o).heap → (w.putObj g o).heap[g]? = some o → RBx O m F (w.putObj g o).heap b x1) :
    Rel O w0 F0 M0 D U F m sz tm ((b, x1) :: st) a (w.putObj g o) := by
  have hlt := h.mlt _ _ _ hm
  have hnew : (w.putObj g o).heap[g]? = some o := World.putObj_heap_same hlt
  have hk : Keeps F w.heap (w.putObj g o).heap := by
    intro k j hj
    by_cases e : k = g
    · subst e; exact absurd hj (hF j)
    · rw [cellsAt_congr (World.putObj_heap_other e)]
  have hal : ∀ b', aliveB ((b, x1) :: st) b' → aliveB st b' := by
    rintro b' ⟨y, hy, hy0⟩
    rw [look_cons] at hy
    split at hy
    · next e => subst e; exact ⟨x0, hl, h0⟩
    · exact ⟨y, hy, hy0⟩
  refine { htm := fun i => (h.htm i).mono (fun _ _ e => e) (fun _ _ e => e) hk, hsz := h.hsz, hde := h.hde, hst := ?_, inj := fun b1 b2 g' c1 c2 a1 a2 => h.inj b1 b2 g' c1 c2 (hal _ a1) (hal _ a2), fresh := ?_, keep := fun g j hj => (hk g j (h.f0 _ _ hj)).trans (h.keep g j hj), pin := h.pin, f0 := h.f0, f1 := h.f1, f2 := ?_, mlt := ?_, below := ?_, hb := h.hb }
  · intro b' y hy
    rw [look_cons] at hy
    split at hy
    · next e => subst e; cases hy; exact hx hk hnew
    · next hne =>
      by_cases hd : y = .dead
      · subst hd; trivial
      refine (h.hst b' y hy).mono (fun _ _ e => e) (fun _ _ e => e) hk (fun g' c' hm' => ⟨?_, fun j hj => hj⟩) id
      refine World.putObj_heap_other ?_
      rintro rfl
      exact hne (h.inj b b' _ c c' ⟨x0, hl, h0⟩ ⟨y, hy, hd⟩ hm hm')
  · intro b' hb'
    obtain ⟨e1, e2⟩ := h.fresh b' hb'
    refine ⟨?_, e2⟩
    rw [look_cons, if_neg (fun e => by subst e; rw [hl] at e1; cases e1)]
    exact e1
  · intro k j hj; have := h.f2 k j hj; simpa using this
  · intro b g c hb; have := h.mlt b g c hb; simpa using this
  · exact h.below.trans ⟨rfl, rfl, rfl, by simp, fun k hno => World.putObj_heap_other (fun e => hno (e ▸ hg))⟩
end

section
variable {P : Program}

def RVl (m : MP) (F : FZ) (H : Array Obj) (cs : List V) (xs : List Value) : Prop := cs.length = xs.length ∧ ∀ (i : Nat) (c : V) (x : Value), cs[i]? = some c → xs[i]? = some x → RV m F H c x

/-- What a call leaves behind. -/
def After (O : Nat → Prop) (w : World) (F : FZ) (m : MP) (st' : ST) (top' : Nat) (r : V) (e : Ending) (w' : World) : Prop :=
  ∃ v F' m', e = .returned v ∧ RelH O w F m top' F' m' st' w' ∧ RV m' F' w'.heap r v

def FnOK (P : Program) (g : FuncId) (args : List V) (st : ST) (top : Nat) (r : V) (st' : ST) (top' : Nat) : Prop :=
  ∀ (O : Nat → Prop) (F : FZ) (m : MP) (w : World) (vs : List Value), RelH O w F m top F m st w → RVl m F w.heap args vs → Calls P g vs.toArray w (After O w F m st' top' r)

def YldOK (P : Program) (b : Nat) (args : List V) (st : ST) (top : Nat) (r : V) (st' : ST) (top' : Nat) : Prop :=
  ∀ (O : Nat → Prop) (F : FZ) (m : MP) (w : World) (vs : List Value), RelH O w F m top F m st w → RVl m F w.heap args vs → ∀ g c, m b = some (g, c) →
    ∃ fn tmps assign body, (Instr.yield g vs.toArray).run P w = .ok (.round g fn tmps assign body) w ∧ ∀ FF, Wide FF → RoundIn FF 0 P g fn tmps assign body w (After O w F m st' top' r)

/-- Calls are followed as the model does. -/
def HOK (P : Program) (H : XH) : Prop := ∀ c avs st top r st' top', H c avs st top = some (r, st', top') → match c with
  | .fn g caps => EntersOK P g ∧ FnOK P g (avs ++ caps) st top r st' top'
  | .yld b => YldOK P b avs st top r st' top'
  | _ => False

theorem xop_ok {H : XH} (hH : HOK P H) (o : Oper) {O : Nat → Prop} {w0 : World} {F0 : FZ} {M0 : MP} {D : List Deferred} {F : FZ} {m : MP} {sz : Nat} {tm : TM} {st : ST} {a : Act} {w : World} {top : Nat} {v : V} {st' : ST} {top' : Nat} {next : Act → World → Prop} {Q : Exit → Act → World → Prop}
    (h : Rel O w0 F0 M0 D (fun b => top ≤ b) F m sz tm st a w) (hd : okDst sz o.dst = true) (hx : xop P H top tm st o.op = some (v, st', top'))
    (hn : ∀ F' m' a' w', Rel O w0 F0 M0 D (fun b => top' ≤ b) F' m' sz (putT tm o.dst v) st' a' w' → next a' w') : o.wpX P a w next Q := by
  have plain : (∀ v' st1, (opA P top (ev tm) o.op).x st = some (v', st1) → v' = v → st1 = st' → top' = top + 1 → o.wpX P a w next Q) := by
    rintro v' st1 he rfl rfl rfl
    refine opA_ok h (id := top) (Nat.le_refl _) hd (K := fun c s => c = v' ∧ s = st1) (RM.x_go _ _ _ _ he ⟨rfl, rfl⟩) ?_
    rintro F' m' c s a' w' hR ⟨rfl, rfl⟩
    exact hn F' m' a' w' (hR.weakU fun b hb => ⟨by omega, by omega⟩)
  have plain' : (match (opA P top (ev tm) o.op).x st with
      | some (v, st') => kV v fun v => kS st' fun st' => kN (top + 1) fun top' => some (v, st', top')
      | none => none) = some (v, st', top') → o.wpX P a w next Q := by
    intro he
    simp only [kV_eq, kS_eq, kN_eq] at he
    split at he
    · next v1 s1 h1 => cases he; exact plain _ _ h1 rfl rfl rfl
    · cases he
  have mv : ∀ x, (o.op = .move x ∨ o.op = .assign x) → some (ev tm x, st, top) = some (v, st', top') → o.wpX P a w next Q := by
    intro x ho he
    cases he
    exact fin_value (by rcases ho with ho | ho <;> simp [execOp, ho]) (hn F m _ _ (h.put hd (h.ev x)))
  cases ho : o.op with
  | move x => exact mv x (.inl ho) (by rw [ho] at hx; exact hx)
  | assign x => exact mv x (.inr ho) (by rw [ho] at hx; exact hx)
  | call c =>
    obtain ⟨callee, args, ts⟩ := c
    cases callee with
    | value f =>
      rw [ho] at hx
      have hx : H (ev tm f) (args.toList.map (ev tm)) st top = some (v, st', top') := hx
      have hf := h.ev f
      obtain ⟨hal, hav⟩ := args_rel h args.toList
      have hcall := hH _ _ _ _ _ _ _ hx
      revert hcall hf
      generalize ev tm f = cf
      intro hf hcall
      cases cf with
      | fn g caps =>
        obtain ⟨henter, hok⟩ := hcall
        obtain ⟨arr, hf', hl, hv⟩ := hf
        have hval : RVl m F w.heap (args.toList.map (ev tm) ++ caps) (args.toList.map a.eval ++ arr.toList) := by
          refine ⟨by rw [List.length_append, List.length_append, hal, hl], fun i c x hc hx => ?_⟩
          by_cases hi : i < (args.toList.map (ev tm)).length
          · rw [List.getElem?_append_left hi] at hc
            rw [List.getElem?_append_left (by omega)] at hx
            exact hav i c x hc hx
          · rw [List.getElem?_append_right (by omega)] at hc
            rw [List.getElem?_append_right (by omega), ← hal] at hx
            exact RV.of_RP (hv _ c x hc hx)
        have hrun : (execOp a.eval o).run P w = .ok (.enter g (args.toList.map a.eval ++ arr.toList).toArray) w := by
          simp only [execOp, ho, resolve, Deferred.ofValue, hf', Sem.run_bind, Sem.run_pure, Result.andThen_ok, invoke]
          have e : (#[] ++ args.map a.eval ++ arr) = (args.toList.map a.eval ++ arr.toList).toArray := by
            apply Array.ext'
            simp
          rw [e, henter]
        intro FF hW
        refine ⟨fun f _ => hW.fn f, ?_⟩
        rw [Oper.semAt_eq _ _ _ (not_defer hrun (fun d e => by cases e)), hrun]
        refine ⟨fun e => (by rw [hW.dep] at e; cases e), (callsIn_of_calls hW ?_)⟩
        refine (hok O F m w _ h.toH hval).mono ?_
        rintro e w' ⟨x, F', m', rfl, hR, hr⟩
        exact hn F' m' _ _ ((h.back hR).put hd hr)
      | yld b =>
        obtain ⟨g, c, hm, hf'⟩ := hf
        obtain ⟨fn, tmps, assign, body, hy, hround⟩ := hcall O F m w (args.toList.map a.eval) h.toH ⟨hal, hav⟩ g c hm
        have hrun : (execOp a.eval o).run P w = .ok (.round g fn tmps assign body) w := by
          simp only [execOp, ho, resolve, Deferred.ofValue, hf', Sem.run_bind, Sem.run_pure, Result.andThen_ok, invoke]
          have e : (#[] ++ args.map a.eval) = (args.toList.map a.eval).toArray := by
            apply Array.ext'
            simp
          rw [e, hy]
        intro FF hW
        refine ⟨fun f _ => hW.fn f, ?_⟩
        rw [Oper.semAt_eq _ _ _ (not_defer hrun (fun d e => by cases e)), hrun]
        refine ⟨fun e => (by rw [hW.dep] at e; cases e), (hround FF hW).mono ?_⟩
        rintro e w' ⟨x, F', m', rfl, hR, hr⟩
        exact hn F' m' _ _ ((h.back hR).put hd hr)
      | _ => exact hcall.elim
    | builtin b => exact plain' (by rw [ho] at hx ⊢; exact hx)
    | invoke r n => exact plain' (by rw [ho] at hx ⊢; exact hx)
  | _ => exact plain' (by rw [ho] at hx ⊢; exact hx)

theorem want_some {O : Nat → Prop} {w0 : World} {F0 : FZ} {M0 : MP} {D : List Deferred} {U : Nat → Prop} {F : FZ} {m : MP} {sz : Nat} {tm : TM} {st : ST} {a : Act} {w : World} (h : Rel O w0 F0 M0 D U F m sz tm st a w)
    {ops : Array Oper} {o : Oper} {b : Bool} (hw : want ops.toList tm o.guard = some b) : Region.wanted o (yielded ops a.tmps) = b := by
  unfold want at hw
  split at hw
  · next hg => cases hw; simp [Region.wanted, hg]
  · next j wt hg =>
    split at hw
    · cases hw
    · next d hd =>
      split at hw
      · next q hq =>
        cases hw
        have hy := yielded_of h hd hq
        simp [Region.wanted, hg, hy]
      · next arr hq =>
        cases hw
        have hy := yielded_not h hd hq
        simp [Region.wanted, hg, hy]
      · cases hw

/-- A region in the order of the text. -/
theorem xops_sound {H : XH} (hH : HOK P H) {FF : Fence} (hW : Wide FF) {O : Nat → Prop} {w0 : World} {F0 : FZ} {M0 : MP} {D : List Deferred} {sz : Nat} {ops : Array Oper} {Q : Exit → Act → World → Prop} {tm' : TM} {st' : ST} {nx' : Nat}
    (hn : ∀ F' m' a' w', Rel O w0 F0 M0 D (fun b => nx' ≤ b) F' m' sz tm' st' a' w' → Q .normal a' w') :
    ∀ (l : List Oper) (k : Nat) (top : Nat) (F : FZ) (m : MP) (tm : TM) (st : ST) (a : Act) (w : World), ops.toList.drop k = l → Rel O w0 F0 M0 D (fun b => top ≤ b) F m sz tm st a w →
      xops P H sz ops.toList l top tm st = some (tm', st', nx') → wpOpsIn FF 0 P ops Q ((List.range ops.size).drop k) a w
  | [], k, top, F, m, tm, st, a, w, hl, h, hg => by
    have hk : ops.size ≤ k := by
      have := congrArg List.length hl
      simp at this
      omega
    rw [List.drop_of_length_le (by simpa using hk)]
    cases hg
    exact hn F m a w h
  | o :: l, k, top, F, m, tm, st, a, w, hl, h, hg => by
    have hk : k < ops.size := by
      have := congrArg List.length hl
      simp at this
      omega
    have ho : ops[k]? = some o := by
      have : (ops.toList.drop k)[0]? = some o := by rw [hl]; rfl
      rw [List.getElem?_drop, Nat.add_zero, Array.getElem?_toList] at this
      exact this
    have hl' : ops.toList.drop (k + 1) = l := by
      rw [← List.drop_drop, hl]; rfl
    have hr : (List.range ops.size).drop k = k :: (List.range ops.size).drop (k + 1) := by
      rw [List.drop_eq_getElem_cons (by simpa using hk)]
      simp
    rw [hr]
    simp only [wpOpsIn, ho]
    simp only [xops] at hg
    split at hg
    · cases hg
    · next hd =>
      split at hg
      · cases hg
      · next hw =>
        have hw' := want_some h hw
        rw [if_neg (by rw [hw']; simp)]
        exact ⟨fun f _ => hW.fn f, xops_sound hH hW hn l (k + 1) top F m _ st _ w hl' (h.put hd (c := vU) rfl) hg⟩
      · next hw =>
        have hw' := want_some h hw
        rw [if_pos hw']
        split at hg
        · cases hg
        · next v st1 top1 hx =>
          refine xop_ok hH o h hd hx ?_ FF hW
          intro F1 m1 a1 w1 hR
          exact xops_sound hH hW hn l (k + 1) top1 F1 m1 _ st1 a1 w1 hl' hR hg
end
end Go.Ev
/- The evaluator's runs are the model's: regions whose order is open; code. -/
set_option linter.unusedVariables false
set_option linter.unusedSimpArgs false
namespace Go.Ev
open Go.RowKit

theorem dec_xT {p : Prop} [d : Decidable p] {k : RM} {st : ST} {rs ws : List Nat} {z : V × ST × List Nat × List Nat} (h : (RM.dec p k).xT st rs ws = some z) : p ∧ k.xT st rs ws = some z := by
  cases d with
  | isTrue hp => exact ⟨hp, h⟩
  | isFalse _ => cases h

theorem RM.xT_go {K : V → ST → List Nat → List Nat → Prop} : ∀ (r : RM) (st : ST) (rs ws : List Nat) (v : V) (st' : ST) (rs' ws' : List Nat), r.xT st rs ws = some (v, st', rs', ws') → K v st' rs' ws' → r.goT st rs ws K
  | .fail, _, _, _, _, _, _, _, h, _ => by cases h
  | .ret _, _, _, _, _, _, _, _, h, hk => by cases h; exact hk
  | .req _ _, _, _, _, _, _, _, _, h, _ => by cases h
  | @RM.dec p k d, st, rs, ws, v, st', rs', ws', h, hk => by
    obtain ⟨hp, h⟩ := dec_xT h
    exact ⟨hp, xT_go k st rs ws v st' rs' ws' h hk⟩
  | .exi _ _ _, _, _, _, _, _, _, _, h, _ => by cases h
  | .get b k, st, rs, ws, v, st', rs', ws', h, hk => by
    simp only [RM.xT] at h
    simp only [RM.goT]
    split at h
    · next y hy => simp only [hy]; exact xT_go (k y) st (b :: rs) ws v st' rs' ws' h hk
    · cases h
  | .put b y k, st, rs, ws, v, st', rs', ws', h, hk => xT_go k _ rs (b :: ws) v st' rs' ws' h hk

section
variable {K : V → ST → List Nat → List Nat → Prop} {z : V × ST × List Nat × List Nat}

theorem mapRM_xT {f : V → (V → RM) → RM} (hf : ∀ (c : V) (k1 k2 : V → RM) (st : ST) (rs ws : List Nat), (f c k1).xT st rs ws = some z → (∀ c' st rs ws, (k1 c').xT st rs ws = some z → (k2 c').goT st rs ws K) → (f c k2).goT st rs ws K) :
    ∀ (cs : List V) (k1 k2 : List V → RM) (st : ST) (rs ws : List Nat), (mapRM f cs k1).xT st rs ws = some z → (∀ cs' st rs ws, (k1 cs').xT st rs ws = some z → (k2 cs').goT st rs ws K) → (mapRM f cs k2).goT st rs ws K
  | [], k1, k2, st, rs, ws, h, hk => hk [] st rs ws h
  | c :: cs, k1, k2, st, rs, ws, h, hk => hf c _ _ st rs ws h fun c' st1 rs1 ws1 h1 => mapRM_xT hf cs _ _ st1 rs1 ws1 h1 fun cs' st2 rs2 ws2 h2 => hk _ st2 rs2 ws2 h2

theorem fz_xT : ∀ (d : Nat) (c : V) (k1 k2 : V → RM) (st : ST) (rs ws : List Nat), (fz d c k1).xT st rs ws = some z → (∀ c' st rs ws, (k1 c').xT st rs ws = some z → (k2 c').goT st rs ws K) → (fz d c k2).goT st rs ws K
  | 0, _, _, _, _, _, _, h, _ => by cases h
  | d + 1, c, k1, k2, st, rs, ws, h, hk => by
    have ih := fz_xT d
    cases c with
    | osl b n =>
      simp only [fz, RM.xT] at h
      simp only [fz, RM.goT]
      split at h
      · next y hy =>
        simp only [hy]
        cases y with
        | row e size cs p =>
          obtain ⟨hp, h⟩ := dec_xT h
          exact ⟨hp, hk _ _ _ _ h⟩
        | _ => cases h
      · cases h
    | box b off =>
      simp only [fz, RM.xT] at h
      simp only [fz, RM.goT]
      split at h
      · next y hy =>
        simp only [hy]
        cases y with
        | row e size cs p => exact hk _ _ _ _ h
        | var cs f => exact mapRM_xT (fun c k1 k2 st rs ws => ih c k1 k2 st rs ws) cs _ _ _ _ _ h fun cs' st1 rs1 ws1 h1 => hk _ _ _ _ h1
        | _ => cases h
      · cases h
    | fn g caps => exact mapRM_xT (fun c k1 k2 st rs ws => ih c k1 k2 st rs ws) caps _ _ _ _ _ h fun cs' st1 rs1 ws1 h1 => hk _ _ _ _ h1
    | ag cs => exact mapRM_xT (fun c k1 k2 st rs ws => ih c k1 k2 st rs ws) cs _ _ _ _ _ h fun cs' st1 rs1 ws1 h1 => hk _ _ _ _ h1
    | yld b => cases h
    | top => exact hk _ _ _ _ h
    | v y => exact hk _ _ _ _ h
    | agg cs => exact hk _ _ _ _ h
    | tup cs => exact hk _ _ _ _ h
    | sl cs n => exact hk _ _ _ _ h
    | fptr cs => exact hk _ _ _ _ h
end

/-- What a function returns, by a run. -/
def conX (f : List V → Option V) : Con := { α := List V × V, enc := Prod.fst, ok := fun x => f x.1 = some x.2, res := Prod.snd }
def ctxX (X : FuncId → Option (List V → Option V)) : FuncId → Option Con := fun g => match X g with
  | some f => some (conX f)
  | none => none

section
variable {P : Program} {X : FuncId → Option (List V → Option V)}

theorem xopT_go {K : V → ST → List Nat → List Nat → Prop} {id : Nat} {tm : TM} {op : Op} {st : ST} {v : V} {st' : ST} {rs' ws' : List Nat} (h : (xopT P X id tm op).xT st [] [] = some (v, st', rs', ws')) (hk : K v st' rs' ws') :
    (opR P (ctxX X) id (ev tm) op).goT st [] [] K := by
  have plain : xopT P X id tm op = opR P (fun _ => none) id (ev tm) op → opR P (fun _ => none) id (ev tm) op = opR P (ctxX X) id (ev tm) op → (opR P (ctxX X) id (ev tm) op).goT st [] [] K := by
    intro e1 e2
    rw [← e2, ← e1]
    exact RM.xT_go _ _ _ _ _ _ _ _ h hk
  cases op with
  | call c =>
    obtain ⟨callee, args, ts⟩ := c
    cases callee with
    | value f =>
      simp only [xopT] at h
      simp only [opR]
      split at h
      · next g caps hg =>
        simp only [hg, ctxX]
        split at h
        · next fx hfx =>
          simp only [hfx, conX]
          refine mapRM_xT (fun c k1 k2 st rs ws => fz_xT 4 c k1 k2 st rs ws) _ _ _ _ _ _ h ?_
          intro avs st1 rs1 ws1 h1
          split at h1
          · next r hr =>
            rw [RM.retF_eq] at h1 
            refine ⟨(avs, r), ⟨levs_eq rfl, hr⟩, ?_⟩
            show (RM.retF r).goT _ _ _ _
            rw [RM.retF_eq]
            cases h1
            exact hk
          · cases h1
        · cases h
      · cases h
    | builtin b => exact plain rfl rfl
    | invoke r n => exact plain rfl rfl
  | _ => exact plain rfl rfl

theorem want_br {all : List Oper} {tm : TM} {o : Oper} {b : Bool} (hw : want all tm o.guard = some b) : (o.guard = none ∧ b = true) ∨ (∃ j wt d q, o.guard = some (j, wt) ∧ (all[j]?).bind (·.dst) = some d ∧ (look tm d).getD .top = .v (.bool q) ∧ b = (q == wt)) ∨ (b = false ∧ ∃ j wt d arr, o.guard = some (j, wt) ∧ (all[j]?).bind (·.dst) = some d ∧ (look tm d).getD .top = .v (.tuple arr)) := by
  unfold want at hw
  split at hw
  · next hg => cases hw; exact .inl ⟨hg, rfl⟩
  · next j wt hg =>
    split at hw
    · cases hw
    · next d hd =>
      split at hw
      · next q hq => cases hw; exact .inr (.inl ⟨j, wt, d, q, hg, hd, hq, rfl⟩)
      · next arr hq => cases hw; exact .inr (.inr ⟨rfl, j, wt, d, arr, hg, hd, hq⟩)
      · cases hw

theorem xopsD_ev {sz : Nat} {ops : Array Oper} {nx : Nat} {K : TM → ST → Prop} {tm' : TM} {st' : ST} (hk : K tm' st') : ∀ (l : List Oper) (i : Nat) (tm : TM) (st : ST) (prev : List (Nat × Oper × List Nat × List Nat)),
    xopsD P X sz ops nx l i tm st prev = some (tm', st') → evOpsD P (ctxX X) sz ops nx l i tm st prev K
  | [], i, tm, st, prev, h => by cases h; exact hk
  | o :: os, i, tm, st, prev, h => by
    simp only [xopsD] at h
    unfold evOpsD
    split at h
    · cases h
    · next hd =>
      simp only [hd]
      split at h
      · cases h
      · next hw =>
        split at h
        · cases h
        · next v st1 rs1 ws1 hx =>
          split at h
          · cases h
          · next hi =>
            have go := xopT_go (K := fun v st' rs ws => match indepB ops o rs ws prev with
              | false => False
              | true => evOpsD P (ctxX X) sz ops nx os (i + 1) (putT tm o.dst v) st' ((i, o, rs, ws) :: prev) K) hx (by simp only [hi]; exact xopsD_ev hk os (i + 1) _ _ _ h)
            rcases want_br hw with ⟨hg, _⟩ | ⟨j, wt, d, q, hg, hdj, hq, hb⟩ | ⟨hb, _⟩
            · simp only [hg]; exact go
            · simp only [hg, hdj, hq]
              have : q = wt := by simpa using hb.symm
              subst this
              cases q with
              | true => exact go
              | false => exact go
            · cases hb
      · next hw =>
        split at h
        · cases h
        · next hi =>
          have go := xopsD_ev hk os (i + 1) _ _ _ h
          rcases want_br hw with ⟨_, hb⟩ | ⟨j, wt, d, q, hg, hdj, hq, hb⟩ | ⟨_, j, wt, d, arr, hg, hdj, hq⟩
          · cases hb
          · simp only [hg, hdj, hq]
            cases q with
            | true =>
              cases wt with
              | true => cases hb
              | false => simp only [br, hi]; exact go
            | false =>
              cases wt with
              | true => simp only [br, hi]; exact go
              | false => cases hb
          · simp only [hg, hdj, hq, hi]; exact go
end

/-- The marks of an activation. -/
def MarksR (m : MP) : List Nat → List Deferred → Prop
  | [], [] => True
  | b :: ds, d :: D => (∃ g c, m b = some (g, c) ∧ d = { target := .collected g, args := #[] }) ∧ MarksR m ds D
  | _, _ => False

theorem MarksR.mono {m m' : MP} (hm : ∀ b y, m b = some y → m' b = some y) : ∀ {ds : List Nat} {D : List Deferred}, MarksR m ds D → MarksR m' ds D
  | [], [], _ => trivial
  | b :: ds, d :: D, ⟨⟨g, c, h1, h2⟩, h3⟩ => ⟨⟨g, c, hm _ _ h1, h2⟩, h3.mono hm⟩
  | [], _ :: _, h => h.elim
  | _ :: _, [], h => h.elim

theorem look_tidyT : ∀ (n : Nat) {tm : TM} {i : Nat} {v : V}, look (tidyT n tm) i = some v → look tm i = some v
  | 0, _, _, _, h => by cases h
  | n + 1, tm, i, v, h => by
    simp only [tidyT] at h
    split at h
    · next u hu =>
      rw [kV0_eq, look_cons] at h
      split at h
      · next e => subst e; cases h; exact hu
      · exact look_tidyT n h
    · exact look_tidyT n h

theorem memN_cons (b j : Nat) (l : List Nat) : memN (b :: l) j = (Nat.beq b j || memN l j) := by
  show Bool.rec (motive := fun _ => Bool) (memN l j) true (Nat.beq b j) = _
  cases Nat.beq b j <;> rfl

theorem beq_ne {b j : Nat} (h : ¬ b = j) : Nat.beq b j = false := by
  cases e : Nat.beq b j with
  | false => rfl
  | true => exact absurd (Nat.eq_of_beq_eq_true e) h

theorem look_tidyS (b0 : Nat) : ∀ (st : ST) (seen : List Nat) (j : Nat), memN seen j = false → look (tidyS b0 seen st) j = look st j
  | [], _, _, _ => rfl
  | (b, x) :: st, seen, j, h => by
    simp only [tidyS]
    split
    · rfl
    · split
      · next hb =>
        rw [look_cons, if_neg (by rintro rfl; rw [hb] at h; cases h)]
        exact look_tidyS b0 st seen j h
      · next hb =>
        rw [look_cons, look_cons]
        split
        · rfl
        · next hne => exact look_tidyS b0 st (b :: seen) j (by rw [memN_cons, beq_ne hne, h]; rfl)

theorem look_sieve (p : Nat → Bool) : ∀ (st : ST) (j : Nat), look (sieve p st) j = if p j = true then look st j else none
  | [], j => by simp [sieve]
  | (b, x) :: st, j => by
    have ih := look_sieve p st j
    have e : sieve p ((b, x) :: st) = Bool.rec (motive := fun _ => ST) (sieve p st) ((b, x) :: sieve p st) (p b) := rfl
    rw [e]
    cases hb : p b with
    | false =>
      show look (sieve p st) j = _
      rw [ih, look_cons]
      by_cases hj : b = j
      · subst hj; simp [hb]
      · rw [if_neg hj]
    | true =>
      show look ((b, x) :: sieve p st) j = _
      rw [look_cons, look_cons, ih]
      by_cases hj : b = j
      · subst hj; simp [hb]
      · simp [hj]

section
variable {O : Nat → Prop} {w0 : World} {F0 : FZ} {M0 : MP} {D : List Deferred} {U : Nat → Prop} {F : FZ} {m : MP} {sz : Nat} {tm : TM} {st : ST} {a : Act} {w : World}
theorem Rel.sieve (h : Rel O w0 F0 M0 D U F m sz tm st a w) (p : Nat → Bool) : Rel O w0 F0 M0 D U F m sz tm (sieve p st) a w := by
  have hl : ∀ b x, look (Go.Ev.sieve p st) b = some x → look st b = some x := by
    intro b x hx
    rw [look_sieve] at hx
    split at hx
    · exact hx
    · cases hx
  have hal : ∀ b, aliveB (Go.Ev.sieve p st) b → aliveB st b := by rintro b ⟨x, hx, h0⟩; exact ⟨x, hl b x hx, h0⟩
  exact { h with hst := fun b x hx => h.hst b x (hl b x hx), inj := fun b b' g c c' a1 a2 => h.inj b b' g c c' (hal b a1) (hal b' a2), fresh := fun b hb => ⟨by rw [look_sieve, (h.fresh b hb).1]; simp, (h.fresh b hb).2⟩ }

theorem Rel.sweep (h : Rel O w0 F0 M0 D U F m sz tm st a w) (top : Nat) (r : V) : Rel O w0 F0 M0 D U F m sz tm (sweep top r st) a w := by
  unfold Go.Ev.sweep
  exact h.sieve _

theorem Rel.sent {top : Nat} (h : Rel O w0 F0 M0 D (fun b => top ≤ b) F m sz tm st a w) : Rel O w0 F0 M0 D (fun b => top + 1 ≤ b) F m sz tm ((top, .dead) :: st) a w := by
  have hal : ∀ b, aliveB ((top, .dead) :: st) b → aliveB st b := by
    rintro b ⟨x, hx, h0⟩
    rw [look_cons] at hx
    split at hx
    · cases hx; exact absurd rfl h0
    · exact ⟨x, hx, h0⟩
  refine { h with hst := fun b x hx => ?_, inj := fun b b' g c c' a1 a2 => h.inj b b' g c c' (hal b a1) (hal b' a2), fresh := fun b hb => ⟨?_, (h.fresh b (by omega)).2⟩ }
  · rw [look_cons] at hx
    split at hx
    · cases hx; trivial
    · exact h.hst b x hx
  · rw [look_cons, if_neg (by omega)]
    exact (h.fresh b (by omega)).1

theorem Rel.tidy (h : Rel O w0 F0 M0 D U F m sz tm st a w) (n b0 : Nat) : Rel O w0 F0 M0 D U F m sz (tidyT n tm) (tidyS b0 [] st) a w := by
  refine (h.congr (st' := tidyS b0 [] st) fun j => look_tidyS b0 st [] j rfl).act (fun i => ?_) h.hsz h.hde
  cases hl : look (tidyT n tm) i with
  | none => exact trivial
  | some v =>
    have := h.htm i
    rw [look_tidyT n hl] at this
    exact this
end

/-- The frame of a round knows its record. -/
def RdOK (m : MP) (FF : Fence) : Option Nat → Prop
  | none => FF.round = none
  | some b => ∃ l c, FF.round = some l ∧ m b = some (l, c)

theorem RdOK.mono {m m' : MP} (hm : ∀ b y, m b = some y → m' b = some y) {FF : Fence} : ∀ {rd : Option Nat}, RdOK m FF rd → RdOK m' FF rd
  | none, h => h
  | some b, ⟨l, c, h1, h2⟩ => ⟨l, c, h1, hm _ _ h2⟩

def exOf : AX → Exit
  | .normal => .normal
  | .exit i => .exit i
  | .ret => .ret

section
variable {P : Program} {H : XH} {X : FuncId → Option (List V → Option V)}

theorem xloop_sound {f : XS → Option (AX × XS)} {FF : Fence} {O : Nat → Prop} {w0 : World} {F0 : FZ} {m0 : MP} {sz : Nat} {c : Code} {e : AX} {s' : XS} {QQ : Exit → Act → World → Prop}
    (hq : ∀ a' w' F' m' D', Rel O w0 F0 m0 D' (fun b => s'.nx ≤ b) F' m' sz s'.tm s'.st a' w' → MarksR m' s'.ds D' → QQ (exOf e) a' w')
    (hf : ∀ (s : XS) (e1 : AX) (s1 : XS), f s = some (e1, s1) → ∀ (QQ : Exit → Act → World → Prop) (F : FZ) (m : MP) (D : List Deferred) (a : Act) (w : World), Rel O w0 F0 m0 D (fun b => s.nx ≤ b) F m sz s.tm s.st a w → MarksR m s.ds D →
      (∀ a' w' F' m' D', Rel O w0 F0 m0 D' (fun b => s1.nx ≤ b) F' m' sz s1.tm s1.st a' w' → MarksR m' s1.ds D' → QQ (exOf e1) a' w') → c.wpIn FF 0 P QQ a w)
    {n : Nat} {s : XS} (h : xloop f sz n s = some (e, s')) {F : FZ} {m : MP} {D : List Deferred} {a : Act} {w : World} (hR : Rel O w0 F0 m0 D (fun b => s.nx ≤ b) F m sz s.tm s.st a w) (hM : MarksR m s.ds D) : (Code.loop c).wpIn FF 0 P QQ a w := by
  refine wpIn_loop_ghost (fun k a w => ∃ s F m D, xloop f sz k s = some (e, s') ∧ Rel O w0 F0 m0 D (fun b => s.nx ≤ b) F m sz s.tm s.st a w ∧ MarksR m s.ds D) n ⟨s, F, m, D, h, hR, hM⟩ ?_
  rintro k a w ⟨s, F, m, D, h, hR, hM⟩
  cases k with
  | zero => cases h
  | succ k =>
    simp only [xloop] at h
    have hR' : Rel O w0 F0 m0 D (fun b => (tidy sz s).nx ≤ b) F m sz (tidy sz s).tm (tidy sz s).st a w := hR.tidy sz s.b0
    split at h
    · next s1 h1 => exact hf _ _ _ h1 _ F m D a w hR' hM fun a' w' F' m' D' r1 r2 => ⟨k, Nat.lt_succ_self k, s1, F', m', D', h, r1, r2⟩
    · next i s1 h1 => cases h; exact hf _ _ _ h1 _ F m D a w hR' hM fun a' w' F' m' D' r1 r2 => hq a' w' F' m' D' r1 r2
    · next s1 h1 => cases h; exact hf _ _ _ h1 _ F m D a w hR' hM fun a' w' F' m' D' r1 r2 => hq a' w' F' m' D' r1 r2
    · cases h
end
end Go.Ev
/- The evaluator's runs are the model's: code, with ranges over functions. -/
set_option linter.unusedVariables false
set_option linter.unusedSimpArgs false
namespace Go.Ev
open Go.RowKit

section
variable {P : Program} {H : XH} {X : FuncId → Option (List V → Option V)}

/-- The record of a loop, and what is asked behind the call. -/
theorem range_end {FF : Fence} {O : Nat → Prop} {w0 w1 w2 : World} {F0 : FZ} {M0 : MP} {sz : Nat} {tm : TM} {a a' : Act} {D D' : List Deferred} {U : Nat → Prop} {F2 F3 : FZ} {m2 m3 : MP} {st1 st2 : ST} {nx2 : Nat} {b l c : Nat} {r2 : LoopX} {ds : List Nat}
    {e : AX} {j : Option Code} {QQ : Exit → Act → World → Prop}
    (hR : Rel O w0 F0 M0 D U F2 m2 sz tm st1 a w1) (hk : RelH O w1 F2 m2 nx2 F3 m3 st2 w2) (ha : a'.tmps = a.tmps) (hD : a'.defers = D') (hb : m2 b = some (l, c)) (hl : look st2 b = some (.loop r2)) (hbusy : isBusy r2.state = false) (hM : MarksR m2 ds D')
    (hj : r2.pending = j) (hje : (e = .normal ∧ j = none) ∨ (∃ i, e = .exit i ∧ j = some (.exit i)) ∨ (e = .ret ∧ j = some .ret))
    (hq : ∀ w3 F' m', Rel O w0 F0 M0 D' (fun b => nx2 ≤ b) F' m' sz tm ((b, .loop { r2 with state := .exhausted }) :: st2) a' w3 → (∀ b y, m2 b = some y → m' b = some y) → MarksR m' ds D' → QQ (exOf e) a' w3) {v : Value} :
    rangePost FF 0 P l QQ a' (.returned v) w2 := by
  have h2 := hR.back hk
  have hm3 : m3 b = some (l, c) := hk.pin _ _ hb
  obtain ⟨g', c', lp, q1, q2, q3, q4, q5, q6, q7, q8, q9, q10, q11⟩ := h2.hst b _ hl
  rw [hm3] at q1; cases q1
  have hnb : lp.state ≠ .busy := by
    intro e
    rw [q5] at e
    rw [e] at hbusy
    cases hbusy
  have h3 := h2.putO (x1 := .loop { r2 with state := .exhausted }) hl (by simp) (by simp) hm3 q2 q4 (o := .loop { lp with state := .exhausted }) (by
    intro hkk hnew
    exact ⟨_, _, _, hm3, q2, hnew, q4, rfl, q6, q7, q8, q9, q10, fun i => (q11 i).mono (fun _ _ e => e) (fun _ _ e => e) hkk⟩)
  have h4 : Rel O w0 F0 M0 D' (fun b => nx2 ≤ b) F3 m3 sz tm ((b, .loop { r2 with state := .exhausted }) :: st2) a' (w2.putObj l (.loop { lp with state := .exhausted })) :=
    h3.act (fun i => by rw [ha]; exact h3.htm i) (by rw [ha]; exact h3.hsz) hD
  refine ⟨lp.pending, _, run_endLoop q3 hnb, ?_⟩
  have hfin := hq _ F3 m3 h4 hk.pin (hM.mono hk.pin)
  have hp : lp.pending = j := q6.trans hj
  generalize (w2.putObj l (.loop { lp with state := .exhausted })) = w3 at hfin ⊢
  rw [hp]
  rcases hje with ⟨rfl, rfl⟩ | ⟨i, rfl, rfl⟩ | ⟨rfl, rfl⟩
  · exact hfin
  · exact wpIn_exit hfin
  · exact wpIn_ret hfin

theorem xcode_sound (hH : HOK P H) (hX : CtxOK P (ctxX X)) (hmix : P.follows .mixedOrders = true) {FF : Fence} (hW : Wide FF) {fuel sz : Nat} {rd : Option Nat} : ∀ (c : Code) (s : XS) (e : AX) (s' : XS), xcode P H X fuel sz rd c s = some (e, s') →
    ∀ (O : Nat → Prop) (QQ : Exit → Act → World → Prop) (w0 : World) (F0 F : FZ) (M0 m : MP) (D : List Deferred) (a : Act) (w : World), Rel O w0 F0 M0 D (fun b => s.nx ≤ b) F m sz s.tm s.st a w → MarksR m s.ds D → RdOK m FF rd →
      (∀ a' w' F' m' D', Rel O w0 F0 M0 D' (fun b => s'.nx ≤ b) F' m' sz s'.tm s'.st a' w' → (∀ b y, m b = some y → m' b = some y) → MarksR m' s'.ds D' → QQ (exOf e) a' w') → c.wpIn FF 0 P QQ a w
  | .skip, s, e, s', hx, O, QQ, w0, F0, F, M0, m, D, a, w, h, hM, hrd, hq => by cases hx; exact wpIn_skip (hq a w F m D h (fun _ _ e => e) hM)
  | .exit i, s, e, s', hx, O, QQ, w0, F0, F, M0, m, D, a, w, h, hM, hrd, hq => by cases hx; exact wpIn_exit (hq a w F m D h (fun _ _ e => e) hM)
  | .ret, s, e, s', hx, O, QQ, w0, F0, F, M0, m, D, a, w, h, hM, hrd, hq => by cases hx; exact wpIn_ret (hq a w F m D h (fun _ _ e => e) hM)
  | .region id ops false, s, e, s', hx, O, QQ, w0, F0, F, M0, m, D, a, w, h, hM, hrd, hq => by
    simp only [xcode] at hx
    split at hx
    · next tm1 st1 nx1 h1 =>
      cases hx
      refine wpIn_region ?_
      have := xops_sound hH hW (Q := QQ) (w0 := w) (F0 := F) (M0 := m) (D := D) (fun F' m' a' w' hR => hq a' w' F' m' D (h.comp hR) hR.pin (hM.mono hR.pin)) ops.toList 0 s.nx F m s.tm s.st a w rfl h.base h1
      simpa using this
    · cases hx
  | .region id ops true, s, e, s', hx, O, QQ, w0, F0, F, M0, m, D, a, w, h, hM, hrd, hq => by
    simp only [xcode] at hx
    split at hx
    · cases hx
    · next hah =>
      split at hx
      · next tm1 st1 h1 =>
        rw [kN_eq] at hx
        cases hx
        exact evOpsD_sound hX hW hmix hah h.base (xopsD_ev (K := fun tm st => tm = tm1 ∧ st = st1) ⟨rfl, rfl⟩ _ _ _ _ _ h1) fun F' m' tm' st' a' w' hR hK => by
          obtain ⟨rfl, rfl⟩ := hK
          exact hq a' w' F' m' D (h.comp hR) hR.pin (hM.mono hR.pin)
      · unfold xlast at hx
        split at hx
        · cases hx
        · next M hsz =>
          split at hx
          · cases hx
          · next hcov =>
            split at hx
            · cases hx
            · next o ho =>
              split at hx
              · cases hx
              · next hg =>
                split at hx
                · cases hx
                · next hd =>
                  split at hx
                  · cases hx
                  · next tm1 st1 h1 =>
                    rw [kN_eq] at hx
                    split at hx
                    · next v st' top' hxop =>
                      cases hx
                      refine evOpsL_sound hsz hcov hX hW hmix hah h.base (xopsD_ev (K := fun tm st => tm = tm1 ∧ st = st1) ⟨rfl, rfl⟩ _ _ _ _ _ h1) fun F' m' tm' st' a' w' next hR hK hnext => ?_
                      obtain ⟨rfl, rfl⟩ := hK
                      have ho' : ops[M]? = some o := by simpa using ho
                      unfold wpOpIn
                      simp only [ho']
                      have hw : Region.wanted o (yielded ops a'.tmps) = true := by simp [Region.wanted, hg]
                      rw [if_pos hw]
                      refine xop_ok hH o hR hd hxop (fun F2 m2 a2 w2 hR2 => hnext a2 w2 ?_) FF hW
                      exact hq a2 w2 F2 m2 D (h.comp hR2) hR2.pin (hM.mono hR2.pin)
                    · cases hx
  | .seq x y, s, e, s', hx, O, QQ, w0, F0, F, M0, m, D, a, w, h, hM, hrd, hq => by
    simp only [xcode] at hx
    refine wpIn_seq ?_
    split at hx
    · next s1 h1 =>
      refine xcode_sound hH hX hmix hW x s _ s1 h1 O _ w0 F0 F M0 m D a w h hM hrd fun a1 w1 F1 m1 D1 r1 r2 r3 => ?_
      exact xcode_sound hH hX hmix hW y s1 e s' hx O QQ w0 F0 F1 M0 m1 D1 a1 w1 r1 r3 (hrd.mono r2) fun a2 w2 F2 m2 D2 q1 q2 q3 => hq a2 w2 F2 m2 D2 q1 (fun b y e => q2 b y (r2 b y e)) q3
    · next i s1 h1 => cases hx; exact xcode_sound hH hX hmix hW x s _ _ h1 O _ w0 F0 F M0 m D a w h hM hrd fun a1 w1 F1 m1 D1 r1 r2 r3 => hq a1 w1 F1 m1 D1 r1 r2 r3
    · next s1 h1 => cases hx; exact xcode_sound hH hX hmix hW x s _ _ h1 O _ w0 F0 F M0 m D a w h hM hrd fun a1 w1 F1 m1 D1 r1 r2 r3 => hq a1 w1 F1 m1 D1 r1 r2 r3
    · cases hx
  | .cond c x y, s, e, s', hx, O, QQ, w0, F0, F, M0, m, D, a, w, h, hM, hrd, hq => by
    simp only [xcode] at hx
    have he := h.ev c
    split at hx
    · next hb =>
      rw [hb] at he
      exact wpIn_cond (t := true) he (xcode_sound hH hX hmix hW x s e s' hx O QQ w0 F0 F M0 m D a w h hM hrd hq)
    · next hb =>
      rw [hb] at he
      exact wpIn_cond (t := false) he (xcode_sound hH hX hmix hW y s e s' hx O QQ w0 F0 F M0 m D a w h hM hrd hq)
    · cases hx
  | .block i c, s, e, s', hx, O, QQ, w0, F0, F, M0, m, D, a, w, h, hM, hrd, hq => by
    simp only [xcode] at hx
    refine wpIn_block ?_
    split at hx
    · next j s1 h1 =>
      split at hx
      · next hj =>
        cases hx
        have := Nat.eq_of_beq_eq_true hj
        subst this
        refine xcode_sound hH hX hmix hW c s _ _ h1 O _ w0 F0 F M0 m D a w h hM hrd fun a1 w1 F1 m1 D1 r1 r2 r3 => ?_
        show Exit.inBlock j QQ (.exit j) a1 w1
        simp only [Exit.inBlock, if_true]
        exact hq a1 w1 F1 m1 D1 r1 r2 r3
      · next hj =>
        cases hx
        have hne : ¬ j = i := by rintro rfl; simp at hj
        refine xcode_sound hH hX hmix hW c s _ _ h1 O _ w0 F0 F M0 m D a w h hM hrd fun a1 w1 F1 m1 D1 r1 r2 r3 => ?_
        show Exit.inBlock i QQ (.exit j) a1 w1
        simp only [Exit.inBlock, if_neg hne]
        exact hq a1 w1 F1 m1 D1 r1 r2 r3
    · next s1 h1 => cases hx; exact xcode_sound hH hX hmix hW c s _ _ h1 O _ w0 F0 F M0 m D a w h hM hrd fun a1 w1 F1 m1 D1 r1 r2 r3 => hq a1 w1 F1 m1 D1 r1 r2 r3
    · next s1 h1 => cases hx; exact xcode_sound hH hX hmix hW c s _ _ h1 O _ w0 F0 F M0 m D a w h hM hrd fun a1 w1 F1 m1 D1 r1 r2 r3 => hq a1 w1 F1 m1 D1 r1 r2 r3
    · cases hx
  | .loop c, s, e, s', hx, O, QQ, w0, F0, F, M0, m, D, a, w, h, hM, hrd, hq => by
    simp only [xcode] at hx
    refine xloop_sound (w0 := w) (F0 := F) (m0 := m) (fun a' w' F' m' D' r1 r2 => hq a' w' F' m' D' (h.comp r1) r1.pin r2) ?_ hx h.base hM
    intro s1 e1 s2 h1 QQ1 F1 m1 D1 a1 w1 hR1 hM1 hq1
    exact xcode_sound hH hX hmix hW c s1 e1 s2 h1 O QQ1 w F F1 m m1 D1 a1 w1 hR1 hM1 (hrd.mono hR1.pin) fun a' w' F' m' D' r1 r2 r3 => hq1 a' w' F' m' D' r1 r3
  | .rangeFunc f ps assign body, s, e, s', hx, O, QQ, w0, F0, F, M0, m, D, a, w, h, hM, hrd, hq => by
    simp only [xcode] at hx
    split at hx
    · cases hx
    · next s1 hs1 =>
      have hf := h.ev f
      split at hx
      · next g caps hg =>
        rw [hg] at hf
        obtain ⟨arr, hf', hl, hv⟩ := hf
        split at hx
        · next rr st2 nx2 hcall =>
          obtain ⟨henter, hok⟩ := hH _ _ _ _ _ _ _ hcall
          split at hx
          · next r2 hr2 =>
            split at hx
            · cases hx
            · next hbusy =>
              have hje : ∃ j, r2.pending = j ∧ ((e = .normal ∧ j = none) ∨ (∃ i, e = .exit i ∧ j = some (.exit i)) ∨ (e = .ret ∧ j = some .ret)) ∧ s' = ⟨s.tm, s1.ds, (s.nx, .loop { r2 with state := .exhausted }) :: st2, nx2, s.b0⟩ := by
                split at hx
                · next hp => cases hx; exact ⟨_, hp, .inl ⟨rfl, rfl⟩, rfl⟩
                · next i hp => cases hx; exact ⟨_, hp, .inr (.inl ⟨i, rfl, rfl⟩), rfl⟩
                · next hp => cases hx; exact ⟨_, hp, .inr (.inr ⟨rfl, rfl⟩), rfl⟩
                · cases hx
              obtain ⟨j, hj, hje, rfl⟩ := hje
              refine wpIn_rangeFunc fun fn _ => ?_
              have ha : a.defers = D := h.hde
              -- the call
              have hres : ∀ (l : Nat) (w1 : World), (resolve a.eval (rangeCall f l) 0).run P w1 = .ok { target := .fn (.func g) arr, args := #[.func (.yield l) #[] #[]] } w1 := by
                intro l w1
                have e : (rangeCall f l).args.map a.eval = #[.func (.yield l) #[] #[]] := by simp [rangeCall, Act.eval]
                show (Deferred.ofValue (a.eval f) ((rangeCall f l).args.map a.eval)).run P w1 = _
                rw [hf', e]
                rfl
              have hinv : ∀ (l : Nat) (w1 : World), (invoke (.fn (.func g) arr) #[.func (.yield l) #[] #[]]).run P w1 = .ok (.enter g (.func (.yield l) #[] #[] :: arr.toList).toArray) w1 := by
                intro l w1
                simp only [invoke]
                have e : (#[.func (.yield l) #[] #[]] ++ arr : Array Value) = (.func (.yield l) #[] #[] :: arr.toList).toArray := by
                  apply Array.ext'
                  simp
                rw [e, henter]
              have hargs : ∀ (F1 : FZ) (m1 : MP) (w1 : World) (l c : Nat), m1 s.nx = some (l, c) → (∀ b y, m b = some y → m1 b = some y) → (∀ g j, F g j → F1 g j) → Keeps F w.heap w1.heap → RVl m1 F1 w1.heap ([.yld s.nx] ++ caps) (.func (.yield l) #[] #[] :: arr.toList) := by
                intro F1 m1 w1 l c hb hmm hff hkk
                refine ⟨by simp [hl], fun i c' x hc hx => ?_⟩
                cases i with
                | zero => simp at hc hx; subst hc hx; exact ⟨l, c, hb, rfl⟩
                | succ i =>
                  simp at hc hx
                  exact RV.of_RP ((hv i c' x hc (by simpa using hx)).mono hmm hff hkk)
              cases rd with
              | none =>
                have hro : FF.round = none := hrd
                cases hs1
                obtain ⟨hA, hmA, hkA⟩ := h.base.newO (id := s.nx + 1) (cap := 0) (by show s.nx ≤ s.nx + 1; omega) (o := .deferred (some [])) (x := .mark true) (by simp) (by
                  intro m' hm' hid hk hh hno
                  exact ⟨_, _, hid, h.own_new, hh, hno⟩)
                obtain ⟨hB, hmB, hkB⟩ := hA.newO (id := s.nx) (cap := 0) (by constructor <;> first | omega | (show s.nx ≤ s.nx; omega)) (o := .loop { state := .ready, pending := none, fn, tmps := a.tmps, params := ps, assign, body, defers := w.heap.size })
                  (x := .loop ⟨s.tm, sz, ps, assign, body, .ready, none⟩) (by simp) (by
                  intro m' hm' hid hk hh hno
                  exact ⟨_, _, _, hid, hA.own_new, hh, hno, rfl, rfl, rfl, rfl, rfl, h.hsz, fun i => (hA.htm i).mono hm' (fun _ _ e => e) hk⟩)
                have hsize : (w.alloc (.deferred (some []))).heap.size = w.heap.size + 1 := by simp
                refine ⟨w.heap.size + 1, [{ target := .collected w.heap.size, args := #[] }], _, _, _, g, _, _, by rw [hro]; exact run_enterLoop_outer fn a.tmps ps assign body, hres _ _, fun f' _ => hW.fn f', hinv _ _, fun e => (by rw [hW.dep] at e; cases e), callsIn_of_calls hW ?_⟩
                refine (hok O _ _ _ _ (hB.weakU (U' := fun b => s.nx + 2 ≤ b) fun b hb => ⟨⟨show s.nx ≤ b by omega, by omega⟩, by omega⟩).toH (hargs _ _ _ (w.heap.size + 1) 0 (by simp [hsize]) (fun b y e => hmB b y (hmA b y e)) (fun _ _ e => e) (fun g' j' e => (hkB g' j' e).trans (hkA g' j' e)))).mono ?_
                rintro en w2 ⟨v, F3, m3, rfl, hk, _⟩
                refine range_end (a' := { a with defers := [{ target := .collected w.heap.size, args := #[] }] ++ a.defers }) (D' := { target := .collected w.heap.size, args := #[] } :: D) (ds := (s.nx + 1) :: s.ds) (h.comp hB) hk rfl (by rw [← ha]; rfl) (b := s.nx) (c := 0) (by simp [hsize]) hr2 hbusy ?_ hj hje fun w3 F' m' r1 r2' r3' => ?_
                · exact ⟨⟨w.heap.size, 0, by simp, rfl⟩, hM.mono fun b y e => hmB b y (hmA b y e)⟩
                · exact hq _ w3 F' m' _ r1 (fun b y e => r2' b y (hmB b y (hmA b y e))) r3'
              | some b =>
                obtain ⟨l0, c0, hro, hb0⟩ := hrd
                simp only [xenter] at hs1
                split at hs1
                · next r0 hr0 =>
                  cases hs1
                  obtain ⟨g0, c0', lp0, z1, z2, z3, _⟩ := h.hst b _ hr0
                  rw [hb0] at z1; cases z1
                  obtain ⟨hB, hmB, hkB⟩ := h.base.newO (id := s.nx) (cap := 0) (by show s.nx ≤ s.nx; omega) (o := .loop { state := .ready, pending := none, fn, tmps := a.tmps, params := ps, assign, body, defers := lp0.defers })
                    (x := .loop ⟨s.tm, sz, ps, assign, body, .ready, none⟩) (by simp) (by
                    intro m' hm' hid hk hh hno
                    exact ⟨_, _, _, hid, h.own_new, hh, hno, rfl, rfl, rfl, rfl, rfl, h.hsz, fun i => (h.htm i).mono hm' (fun _ _ e => e) hk⟩)
                  refine ⟨w.heap.size, [], _, _, _, g, _, _, by rw [hro]; exact run_enterLoop_inner z3 fn a.tmps ps assign body, hres _ _, fun f' _ => hW.fn f', hinv _ _, fun e => (by rw [hW.dep] at e; cases e), callsIn_of_calls hW ?_⟩
                  refine (hok O _ _ _ _ (hB.weakU (U' := fun b => s.nx + 1 ≤ b) fun b hb => ⟨show s.nx ≤ b by omega, by omega⟩).toH (hargs _ _ _ w.heap.size 0 (by simp) hmB (fun _ _ e => e) hkB)).mono ?_
                  rintro en w2 ⟨v, F3, m3, rfl, hk, _⟩
                  refine range_end (a' := { a with defers := [] ++ a.defers }) (D' := D) (ds := s.ds) (h.comp hB) hk rfl (by rw [← ha]; rfl) (b := s.nx) (c := 0) (by simp) hr2 hbusy (hM.mono hmB) hj hje fun w3 F' m' r1 r2' r3' => ?_
                  exact hq _ w3 F' m' _ r1 (fun b y e => r2' b y (hmB b y e)) r3'
                · cases hs1
          · cases hx
        · cases hx
      · cases hx
  | .scope _, _, _, _, hx, _, _, _, _, _, _, _, _, _, _, _, _, _, _ => by cases hx
  | .label _, _, _, _, hx, _, _, _, _, _, _, _, _, _, _, _, _, _, _ => by cases hx
  | .goto _, _, _, _, hx, _, _, _, _, _, _, _, _, _, _, _, _, _, _ => by cases hx
  | .refuse _, _, _, _, hx, _, _, _, _, _, _, _, _, _, _, _, _, _, _ => by cases hx
end
end Go.Ev
