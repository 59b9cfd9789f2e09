/- A part of the proof of EmptiesCosts. -/
import Derived.OrdersIn
import Derived.Test.YtiggfdfhffdgkaaW5
/- The mirror machine: calls see what they can reach; steps. -/
set_option linter.unusedVariables false
set_option linter.unusedSimpArgs false
namespace Go.Ev.Mi
open Go.RowKit
noncomputable section

def deads (sr : SB) : SB := sr.map fun p => (p.1, B.dead)

theorem look_deads : ∀ (sr : SB) (b : Nat), look (deads sr) b = (look sr b).map fun _ => B.dead
  | [], b => rfl
  | (i, x) :: sr, b => by
    show look ((i, B.dead) :: deads sr) b = _
    rw [look_cons, look_cons]
    split
    · rfl
    · exact look_deads sr b

section
variable {O : Nat → Prop} {w0 : World} {M0 : MM} {N0 : Nat} {U : Nat → Prop} {m : MM} {sz : Nat} {tm : TW} {st : SB} {a : Act} {w : World}

/-- What a call may own: what it can reach, and what it makes. -/
def OwnF (O : Nat → Prop) (m : MM) (st sr : SB) (g : Nat) : Prop := O g ∧ ∀ b C, alive st b → m b = some (g, C) → ∃ x, look sr b = some x

theorem RelM.frame_in (h : RelM O w0 M0 N0 U m sz tm st a w) {top : Nat} (hU : ∀ b, top ≤ b → U b) {sr : SB} (hsr : ∀ b x, look sr b = some x → look st b = some x) :
    RelH (OwnF O m st sr) w m top top m sr w := by
  have hal : ∀ b, alive sr b → alive st b := by rintro b ⟨x, hx, h0⟩; exact ⟨x, hsr b x hx, h0⟩
  refine { htm := fun i => trivial, hsz := rfl, hst := ?_, inj := fun b b' g c c' a1 a2 => h.inj b b' g c c' (hal b a1) (hal b' a2), fresh := ?_, un := fun b hb => hb, mlt := h.mlt, pin := fun _ _ e => e, low := fun _ _ e => .inl e, below := Own.refl _ _, hb := ?_ }
  · intro b x hx
    by_cases hd : x = .dead
    · subst hd; trivial
    refine (h.hst b x (hsr b x hx)).mono (fun _ _ e => e) fun g C hg ho => ⟨rfl, ho, fun b' C' ha hm => ?_⟩
    have := h.inj b b' g C C' ⟨x, hsr b x hx, hd⟩ ha hg hm
    subst this
    exact ⟨x, hx⟩
  · intro b hb
    refine ⟨?_, (h.fresh b (hU b hb)).2⟩
    cases e : look sr b with
    | none => rfl
    | some x => have := hsr b x e; rw [(h.fresh b (hU b hb)).1] at this; cases this
  · intro g hg
    refine ⟨h.hb g (Nat.le_trans h.below.size hg), fun b C _ hm => ?_⟩
    have := h.mlt _ _ _ hm
    omega

theorem RelM.frame_out (h : RelM O w0 M0 N0 U m sz tm st a w) {top top' : Nat} (hU : ∀ b, top ≤ b → U b) (htt : top ≤ top') {sr : SB} (hsr : ∀ b x, look sr b = some x → look st b = some x) {m' : MM} {s2 : SB} {w' : World}
    (hs2 : ∀ b x, look s2 b = some x → top ≤ b ∨ ∃ y, look sr b = some y) (k : RelH (OwnF O m st sr) w m top top' m' s2 w') :
    RelM O w0 M0 N0 (fun b => U b ∧ (top ≤ b → top' ≤ b)) m' sz tm (s2 ++ (deads sr ++ st)) a w' := by
  have hlk : ∀ b, look (s2 ++ (deads sr ++ st)) b = (look s2 b).or (((look sr b).map fun _ => B.dead).or (look st b)) := by
    intro b
    rw [look_append, look_append, look_deads]
  have cases3 : ∀ b x, look (s2 ++ (deads sr ++ st)) b = some x → look s2 b = some x ∨ x = .dead ∨ (look s2 b = none ∧ look sr b = none ∧ look st b = some x) := by
    intro b x hx
    rw [hlk] at hx
    cases h2 : look s2 b with
    | some y => rw [h2] at hx; exact .inl (by simpa using hx)
    | none =>
      rw [h2] at hx
      cases h1 : look sr b with
      | some y => rw [h1] at hx; right; left; simpa using hx.symm
      | none => rw [h1] at hx; right; right; exact ⟨rfl, rfl, by simpa using hx⟩
  have hout : ∀ b x, look sr b = none → look st b = some x → x ≠ .dead → ∀ g C, m b = some (g, C) → ¬ OwnF O m st sr g := by
    intro b x h1 h2 h3 g C hm ho
    obtain ⟨y, hy⟩ := ho.2 b C ⟨x, h2, h3⟩ hm
    rw [h1] at hy; cases hy
  refine { htm := fun i => RW.mono k.pin _ _ (h.htm i), hsz := h.hsz, hst := ?_, inj := ?_, fresh := ?_, un := fun b hb => h.un b hb.1, mlt := k.mlt, pin := fun b y e => k.pin b y (h.pin b y e), low := ?_, below := h.below.trans (k.below.mono fun g hg => hg.1), hb := h.hb }
  · intro b x hx
    rcases cases3 b x hx with h2 | rfl | ⟨h2, h1, h0⟩
    · exact (k.hst b x h2).mono (fun _ _ e => e) fun g C _ ho => ⟨rfl, ho.1⟩
    · trivial
    · by_cases hd : x = .dead
      · subst hd; trivial
      exact (h.hst b x h0).mono k.pin fun g C hg ho => ⟨k.below.block g (hout b x h1 h0 hd g C hg), ho⟩
  · have kind : ∀ b, alive (s2 ++ (deads sr ++ st)) b → ∀ g C, m' b = some (g, C) → (alive s2 b ∧ OwnF O m st sr g) ∨ (alive st b ∧ m b = some (g, C) ∧ ¬ OwnF O m st sr g) := by
      rintro b ⟨x, hx, hd⟩ g C hg
      rcases cases3 b x hx with h2 | rfl | ⟨h2, h1, h0⟩
      · obtain ⟨g', C', h3, h4⟩ := (k.hst b x h2).at hd
        rw [hg] at h3; cases h3
        exact .inl ⟨⟨x, h2, hd⟩, h4⟩
      · exact absurd rfl hd
      · obtain ⟨g', C', h3, h4⟩ := (h.hst b x h0).at hd
        have := k.pin _ _ h3
        rw [hg] at this; cases this
        exact .inr ⟨⟨x, h0, hd⟩, h3, hout b x h1 h0 hd g C h3⟩
    intro b b' g c c' ha ha' hg hg'
    rcases kind b ha g c hg with ⟨q1, q2⟩ | ⟨q1, q2, q3⟩
    · rcases kind b' ha' g c' hg' with ⟨p1, p2⟩ | ⟨p1, p2, p3⟩
      · exact k.inj b b' g c c' q1 p1 hg hg'
      · exact absurd q2 p3
    · rcases kind b' ha' g c' hg' with ⟨p1, p2⟩ | ⟨p1, p2, p3⟩
      · exact absurd p2 q3
      · exact h.inj b b' g c c' q1 p1 q2 p2
  · rintro b ⟨hb, hbt⟩
    obtain ⟨e1, e2⟩ := h.fresh b hb
    have hsrn : look sr b = none := by
      cases e : look sr b with
      | none => rfl
      | some x => have := hsr b x e; rw [e1] at this; cases this
    by_cases hle : top ≤ b
    · obtain ⟨k1, k2⟩ := k.fresh b (hbt hle)
      exact ⟨by rw [hlk, k1, hsrn, e1]; rfl, k2⟩
    · have hs2n : look s2 b = none := by
        cases e : look s2 b with
        | none => rfl
        | some x =>
          rcases hs2 b x e with h1 | ⟨y, hy⟩
          · exact absurd h1 hle
          · rw [hsrn] at hy; cases hy
      refine ⟨by rw [hlk, hs2n, hsrn, e1]; rfl, ?_⟩
      cases e : m' b with
      | none => rfl
      | some y =>
        rcases k.low b y e with h1 | h1
        · rw [e2] at h1; cases h1
        · exact absurd h1 hle
  · intro b y e
    rcases k.low b y e with h1 | h1
    · exact h.low b y h1
    · exact .inr (Nat.le_trans (h.un top (hU top (Nat.le_refl _))) h1)
end

/-! What can be reached. -/
mutual
def refsW : W → List Nat
  | .ptr b _ => [b]
  | .sl b _ _ _ => [b]
  | .mp b => [b]
  | .yld b => [b]
  | .agg cs => refsL cs
  | .tup cs => refsL cs
  | .fn _ caps => refsL caps
  | .ifc _ x => refsW x
  | .v _ => []
  | .top => []
def refsL : List W → List Nat
  | [] => []
  | c :: cs => refsW c ++ refsL cs
end
def refsB : B → List Nat
  | .cells cs _ _ => refsL cs
  | .map es _ => es.flatMap fun e => refsW e.2.1
  | .loop r => r.tm.flatMap fun p => refsW p.2
  | _ => []
def cloW (st : SB) : Nat → List Nat → List Nat → List Nat
  | 0, _, kept => kept
  | _ + 1, [], kept => kept
  | n + 1, b :: work, kept => match memN kept b with
    | true => cloW st n work kept
    | false => match look st b with
      | some x => cloW st n (refsB x ++ work) (b :: kept)
      | none => cloW st n work kept
/-- The boxes that are reached. -/
def pickS (st : SB) : List Nat → SB
  | [] => []
  | b :: l => match look st b with
    | some x => (b, x) :: pickS st l
    | none => pickS st l
def reach (st : SB) (l : List Nat) : SB := pickS st (cloW st 100000 l [])

theorem look_pick (st : SB) : ∀ (l : List Nat) (b : Nat) (x : B), look (pickS st l) b = some x → look st b = some x
  | [], b, x, h => by cases h
  | c :: l, b, x, h => by
    simp only [pickS] at h
    split at h
    · next y hy =>
      rw [look_cons] at h
      split at h
      · next e => subst e; cases h; exact hy
      · exact look_pick st l b x h
    · exact look_pick st l b x h

theorem look_keys : ∀ (st : SB) (b : Nat) (x : B), look st b = some x → b ∈ st.map (·.1)
  | [], b, x, h => by cases h
  | (i, y) :: st, b, x, h => by
    rw [look_cons] at h
    split at h
    · next e => subst e; simp
    · simp [look_keys st b x h]

/-- A call: what is called, its arguments, the boxes, the first new number. -/
abbrev WH := W → List W → SB → Nat → Option (W × SB × Nat)

def After (O : Nat → Prop) (w : World) (m : MM) (top : Nat) (st' : SB) (top' : Nat) (r : W) (e : Ending) (w' : World) : Prop :=
  ∃ v m', e = .returned v ∧ RelH O w m top top' m' st' w' ∧ RW m' r v
def FnOK (P : Program) (g : FuncId) (args : List W) (st : SB) (top : Nat) (r : W) (st' : SB) (top' : Nat) : Prop :=
  ∀ (O : Nat → Prop) (m : MM) (w : World) (vs : List Value), RelH O w m top top m st w → RWs m false args vs → Calls P g vs.toArray w (After O w m top st' top' r)
def YldOK (P : Program) (b : Nat) (args : List W) (st : SB) (top : Nat) (r : W) (st' : SB) (top' : Nat) : Prop :=
  ∀ (O : Nat → Prop) (m : MM) (w : World) (vs : List Value), RelH O w m top top m st w → RWs m false args vs → ∀ g C, m b = some (g, C) →
    ∃ fn tmps assign body, (Instr.yield g vs.toArray).run P w = .ok (.round g fn tmps assign body) w ∧ ∀ FF, Wide FF → RoundIn FF 0 P g fn tmps assign body w (After O w m top st' top' r)
def HOK (P : Program) (H : WH) : Prop := ∀ c avs st top r st' top', H c avs st top = some (r, st', top') → top ≤ top' ∧ match c with
  | .fn g caps => EntersOK P g ∧ FnOK P g (avs ++ caps) st top r st' top'
  | .yld b => YldOK P b avs st top r st' top'
  | _ => False

section
variable (P : Program)

/-! The same values, reckoned out. -/
section
variable {β : Type}
def kO (n : Option Nat) (k : Option Nat → β) : β := match n with
  | none => k none
  | some n => kN n fun n => k (some n)
mutual
def kW (c : W) (k : W → β) : β := match c with
  | .top => k .top
  | .v (.int j n) => kI n fun n => k (.v (.int j n))
  | .v (.bool b) => kB b fun b => k (.v (.bool b))
  | .v x => k (.v x)
  | .agg cs => kWs cs fun cs => k (.agg cs)
  | .tup cs => kWs cs fun cs => k (.tup cs)
  | .ptr b off => kN b fun b => kN off fun off => k (.ptr b off)
  | .sl b off n cap => kN b fun b => kN off fun off => kN n fun n => kO cap fun cap => k (.sl b off n cap)
  | .mp b => kN b fun b => k (.mp b)
  | .fn g caps => kWs caps fun caps => k (.fn g caps)
  | .yld b => kN b fun b => k (.yld b)
  | .ifc t x => kW x fun x => k (.ifc t x)
def kWs (cs : List W) (k : List W → β) : β := match cs with
  | [] => k []
  | c :: cs => kW c fun c => kWs cs fun cs => k (c :: cs)
end
def kE : List (Value × W × Nat) → (List (Value × W × Nat) → β) → β
  | [], k => k []
  | (x, c, n) :: es, k => kW c fun c => kN n fun n => kE es fun es => k ((x, c, n) :: es)
def kX (x : B) (k : B → β) : β := match x with
  | .cells cs e size => kWs cs fun cs => k (.cells cs e size)
  | .map es c => kE es fun es => kN c fun c => k (.map es c)
  | x => k x
def kSB : SB → (SB → β) → β
  | [], k => k []
  | (b, x) :: st, k => kN b fun b => kX x fun x => kSB st fun st => k ((b, x) :: st)

theorem kO_eq (n : Option Nat) (k : Option Nat → β) : kO n k = k n := by cases n <;> simp only [kO, kN_eq]
mutual
theorem kW_eq : ∀ (c : W) (k : W → β), kW c k = k c
  | .top, k => rfl
  | .v x, k => by
    cases x <;> simp only [kW, kI_eq, kB_eq]
  | .agg cs, k => by simp only [kW, kWs_eq cs]
  | .tup cs, k => by simp only [kW, kWs_eq cs]
  | .ptr b off, k => by simp only [kW, kN_eq]
  | .sl b off n cap, k => by simp only [kW, kN_eq, kO_eq]
  | .mp b, k => by simp only [kW, kN_eq]
  | .fn g caps, k => by simp only [kW, kWs_eq caps]
  | .yld b, k => by simp only [kW, kN_eq]
  | .ifc t x, k => by simp only [kW, kW_eq x]
theorem kWs_eq : ∀ (cs : List W) (k : List W → β), kWs cs k = k cs
  | [], k => by simp only [kWs]
  | c :: cs, k => by simp only [kWs, kW_eq c, kWs_eq cs]
end
theorem kE_eq : ∀ (es : List (Value × W × Nat)) (k : List (Value × W × Nat) → β), kE es k = k es
  | [], k => rfl
  | (x, c, n) :: es, k => by simp only [kE, kW_eq, kN_eq, kE_eq es]
theorem kX_eq (x : B) (k : B → β) : kX x k = k x := by
  unfold kX
  split <;> simp only [kWs_eq, kE_eq, kN_eq]
theorem kSB_eq : ∀ (st : SB) (k : SB → β), kSB st k = k st
  | [], k => rfl
  | (b, x) :: st, k => by simp only [kSB, kN_eq, kX_eq, kSB_eq st]
end

/-- A step: its value, what it writes, what it reads, the next new number. -/
def xcallF (H : WH) (c : W) (avs : List W) (st : SB) (top : Nat) : Option (W × SB × List Nat × Nat) :=
  let sr := reach st (refsW c ++ refsL avs)
  match H c avs sr top with
  | some (r, s2, top') => match s2.all fun p => Nat.ble top p.1 || (look sr p.1).isSome with
    | true => some (r, s2 ++ deads sr, sr.map (·.1), top')
    | false => none
  | none => none

def isCallO : Op → Bool
  | .call { callee := .value _, .. } => true
  | .call { callee := .invoke _ _, .. } => true
  | _ => false

/-- The function that a method of a dynamic type is, whose receiver is the value as it is. -/
def invokeW (t : TypeId) (name : String) : Option FuncId := match P.info? t with
  | some i => match i.methods.find? (·.name == name) with
    | some mt => match mt.path.toList, mt.func with
      | [], some (f, pr) => match P.underlying t, pr with
        | some (.pointer _), true => some f
        | some (.pointer _), false => none
        | some _, false => some f
        | _, _ => none
      | _, _ => none
    | none => none
  | none => none

def xstep (H : WH) (id top : Nat) (tm : TW) (st : SB) (o : Oper) : Option (W × SB × List Nat × Nat) := match o.op with
  | .call { callee := .value f, args, .. } => xcallF H (evW tm f) (args.toList.map (evW tm)) st top
  | .call { callee := .invoke r name, args, .. } => match evW tm r with
    | .ifc t x => match invokeW P t name with
      | some g => xcallF H (.fn g []) (x :: args.toList.map (evW tm)) st top
      | none => none
    | _ => none
  | _ => match (opM P id (evW tm) o).x st [] [] with
    | some (v, _, rs, us) => kW v fun v => kSB us fun us => some (v, us, rs, top)
    | none => none

/-- A step is one of the model's, wherever what it reads is the same. -/
def StepOK (sz : Nat) (ops : Array Oper) (o : Oper) (id top : Nat) (tm : TW) (L : Nat → Option B) (rs : List Nat) (us : SB) (v : W) (top' : Nat) : Prop :=
  ∀ (tm2 : TW) (st2 : SB), (∀ t ∈ o.looksAt ops, look tm2 t = look tm t) → (∀ b ∈ rs, look st2 b = L b) →
    ∀ (O : Nat → Prop) (w0 : World) (M0 : MM) (N0 : Nat) (U : Nat → Prop) (m : MM) (a : Act) (w : World) (next : Act → World → Prop) (Q : Exit → Act → World → Prop), RelM O w0 M0 N0 U m sz tm2 st2 a w → U id → (isCallO o.op = true → ∀ b, top ≤ b → U b) →
      (∀ m' a' w', RelM O w0 M0 N0 (fun b => U b ∧ b ≠ id ∧ (isCallO o.op = true → top ≤ b → top' ≤ b)) m' sz (putW tm2 o.dst v) (us ++ st2) a' w' → (∀ b y, m b = some y → m' b = some y) → a'.defers = a.defers → next a' w') → o.wpX P a w next Q
end

section
variable {P : Program}

theorem put_defers (a : Act) (d : Option Tmp) (x : Value) : (a.put d x).defers = a.defers := by cases d <;> rfl

theorem args_d {m : MM} {tm : TW} {a : Act} {l : List Operand} (h : ∀ x ∈ l, RW m (evW tm x) (a.eval x)) : RWs m false (l.map (evW tm)) (l.map a.eval) := caps_d h

theorem evW_look {tm tm' : TW} {x : Operand} (h : ∀ t, x = .tmp t → look tm' t = look tm t) : evW tm' x = evW tm x := by
  cases x with
  | tmp t => simp only [evW, h t rfl]
  | _ => rfl

theorem invoke_run {t : TypeId} {name : String} {g : FuncId} (hi : invokeW P t name = some g) (henter : EntersOK P g) {x : Value} {args : Array Value} (w : World) : (callMethod (.iface t x) name args).run P w = .ok (.enter g (#[x] ++ args)) w := by
  unfold invokeW at hi
  split at hi
  · next i hti =>
    split at hi
    · next mt hm =>
      split at hi
      · next f pr hp hf =>
        have hpath : mt.path.toList = [] := hp
        have hr : (∀ wr, (receiverAt t (.val x) pr wr).run P w = .ok x w) ∧ f = g := by
          split at hi
          · next e hu => cases hi; exact ⟨fun wr => by simp [receiverAt, run_underlying hu, Place.get], rfl⟩
          · cases hi
          · next d hu hnp hd =>
            cases hi
            refine ⟨fun wr => ?_, rfl⟩
            simp only [receiverAt, Sem.run_bind, run_underlying hd, Result.andThen_ok]
            cases d <;> first | (simp [Place.get]; done) | exact absurd hd (hnp _)
          · cases hi
        obtain ⟨hr, rfl⟩ := hr
        have hfuel : P.types.size + Made.depth = (P.types.size + Made.depth - 1) + 1 := by simp [Made.depth]
        have hmeth : (method (P.types.size + Made.depth) t x name).run P w = .ok (f, x) w := by
          rw [hfuel]
          simp [method, typeInfo, hti, hm, hpath, follow, hf, hr]
        simp only [callMethod, Sem.run_bind, program, Sem.run, Result.andThen, Sem.run_pure, hmeth]
        exact henter _ _
      · cases hi
    · cases hi
  · cases hi

theorem xstep_ok {H : WH} (hH : HOK P H) {sz : Nat} {ops : Array Oper} {o : Oper} {id top : Nat} {tm : TW} {st : SB} {v : W} {us : SB} {rs : List Nat} {top' : Nat} (hd : okDst sz o.dst = true)
    (hx : xstep P H id top tm st o = some (v, us, rs, top')) : top ≤ top' ∧ (isCallO o.op = false → top' = top) ∧ StepOK P sz ops o id top tm (look st) rs us v top' := by
  have plain : isCallO o.op = false → (match (opM P id (evW tm) o).x st [] [] with
      | some (v, _, rs, us) => kW v fun v => kSB us fun us => some (v, us, rs, top)
      | none => none) = some (v, us, rs, top') → top ≤ top' ∧ (isCallO o.op = false → top' = top) ∧ StepOK P sz ops o id top tm (look st) rs us v top' := by
    intro hnc he
    split at he
    · next v1 st1 rs1 us1 h1 =>
      rw [kW_eq, kSB_eq] at he
      cases he
      refine ⟨Nat.le_refl _, fun _ => rfl, ?_⟩
      intro tm2 st2 ht hr O w0 M0 N0 U m a w next Q h hU _ hn
      obtain ⟨vs, e1, e2, e3, e4⟩ := T.x_us _ _ _ _ _ _ _ _ h1
      have h2 := e4 st2 hr
      simp only [List.append_nil] at e1
      subst e1
      have hρ : ∀ z ∈ o.op.operands, RW m (evW tm z) (a.eval z) := by
        intro z hz
        have := h.ev z
        rwa [evW_look (tm := tm) fun t e => ht t (by subst e; exact mem_looksAt hz)] at this
      obtain ⟨n, x, w', m', v', st', hrun, hcase, hR, hmm, hrw, hv', hs'⟩ := op_d (id := id) h hU hρ (T.x_go (K := fun v' s' => v' = v ∧ s' = us ++ st2) _ _ _ _ _ _ _ _ h2 ⟨rfl, rfl⟩)
      subst hv' hs'
      have fin := hn m' _ w' ((hR.weakU (U' := fun b => U b ∧ b ≠ id ∧ (isCallO o.op = true → top ≤ b → top ≤ b)) fun b e => ⟨e.1, e.2.1⟩).put hd hrw) hmm (put_defers _ _ _)
      rcases hcase with rfl | ⟨rfl, rfl⟩
      · exact fin_value hrun fin
      · exact fin_skip hrun fin
    · cases he
  have called : ∀ (c : W) (avs : List W), isCallO o.op = true → (∀ z ∈ o.op.operands, ∀ b ∈ refsW (evW tm z), True) → xcallF H c avs st top = some (v, us, rs, top') →
      (∀ (tm2 : TW) (m : MM) (a : Act) (w : World), (∀ t ∈ o.looksAt ops, look tm2 t = look tm t) → (∀ z ∈ o.op.operands, RW m (evW tm z) (a.eval z)) →
        (∃ g caps vs, c = .fn g caps ∧ (EntersOK P g → (execOp a.eval o).run P w = .ok (.enter g vs.toArray) w) ∧ RWs m false (avs ++ caps) vs) ∨
        (∃ b vs, c = .yld b ∧ ∀ g C, m b = some (g, C) → (∀ n, (Instr.yield g vs.toArray).run P w = .ok n w → (execOp a.eval o).run P w = .ok n w) ∧ RWs m false avs vs) ∧ ∃ b g C, c = .yld b ∧ m b = some (g, C)) →
      top ≤ top' ∧ (isCallO o.op = false → top' = top) ∧ StepOK P sz ops o id top tm (look st) rs us v top' := by
    intro c avs hco _ hcall hargs
    unfold xcallF at hcall
    simp only at hcall
    split at hcall
    · next r s2 top1 hc1 =>
      split at hcall
      · next hall =>
        cases hcall
        obtain ⟨htt, hcase⟩ := hH _ _ _ _ _ _ _ hc1
        refine ⟨htt, fun e => (by rw [hco] at e; cases e), ?_⟩
        intro tm2 st2 ht hr O w0 M0 N0 U m a w next Q h hU hUt hn
        replace hUt := hUt hco
        have hops : ∀ z ∈ o.op.operands, RW m (evW tm z) (a.eval z) := by
          intro z hz
          have := h.ev z
          rwa [evW_look (tm := tm) fun t e => ht t (by subst e; exact mem_looksAt hz)] at this
        have hsr : ∀ b x, look (reach st (refsW c ++ refsL avs)) b = some x → look st2 b = some x := by
          intro b x hb
          rw [hr b (look_keys _ _ _ hb)]
          exact look_pick _ _ _ _ hb
        have hs2 : ∀ b x, look s2 b = some x → top ≤ b ∨ ∃ y, look (reach st (refsW c ++ refsL avs)) b = some y := by
          intro b x hb
          have := List.all_eq_true.1 hall (b, x) (look_mem hb)
          simp only [Bool.or_eq_true] at this
          rcases this with h1 | h1
          · exact .inl (Nat.le_of_ble_eq_true h1)
          · exact .inr (Option.isSome_iff_exists.1 h1)
        have fin : ∀ m' x w', RelH (OwnF O m st2 (reach st (refsW c ++ refsL avs))) w m top top' m' s2 w' → RW m' v x → next (a.put o.dst x) w' := by
          intro m' x w' k hrw
          have hR := h.frame_out hUt htt hsr hs2 k
          rw [← List.append_assoc] at hR
          exact hn m' _ w' ((hR.weakU fun b e => ⟨e.1, e.2.2 hco⟩).put hd hrw) k.pin (put_defers _ _ _)
        have hnd : ∀ {n : Next}, (execOp a.eval o).run P w = .ok n w → (∀ d, n ≠ .defer d) → o.semAt = o.semAt := fun _ _ => rfl
        rcases hargs tm2 m a w ht hops with ⟨g, caps, vs, rfl, hrun, hval⟩ | ⟨⟨b, vs, rfl, hrun⟩, b', g, C, hb', hm⟩
        · obtain ⟨henter, hok⟩ := hcase
          have hrun := hrun henter
          intro FF hW
          refine ⟨fun f _ => hW.fn f, ?_⟩
          rw [Oper.semAt_eq _ _ _ (not_defer hrun (fun d e => by cases e)), hrun]
          refine ⟨fun e => (by rw [hW.dep] at e; cases e), (callsIn_of_calls hW ?_)⟩
          refine (hok _ m w _ (h.frame_in hUt hsr) hval).mono ?_
          rintro e w' ⟨x, m', rfl, k, hrw⟩
          exact fin m' x w' k hrw
        · cases hb'
          obtain ⟨hrun, hval⟩ := hrun g C hm
          obtain ⟨fn, tmps, assign, body, hy, hround⟩ := hcase _ m w _ (h.frame_in hUt hsr) hval g C hm
          have hrun := hrun _ hy
          intro FF hW
          refine ⟨fun f _ => hW.fn f, ?_⟩
          rw [Oper.semAt_eq _ _ _ (not_defer hrun (fun d e => by cases e)), hrun]
          refine ⟨fun e => (by rw [hW.dep] at e; cases e), (hround FF hW).mono ?_⟩
          rintro e w' ⟨x, m', rfl, k, hrw⟩
          exact fin m' x w' k hrw
      · cases hcall
    · cases hcall
  unfold xstep at hx
  split at hx
  · next f args ts ho =>
    have hH2 := hx
    refine called _ _ (by simp [ho, isCallO]) (fun _ _ _ _ => trivial) hx ?_
    intro tm2 m a w ht hops
    have hf : RW m (evW tm f) (a.eval f) := hops f (by simp [ho, Op.operands, Call.operands])
    have hargs := args_d (m := m) (tm := tm) (a := a) (l := args.toList) fun x hx => hops x (by simp [ho, Op.operands, Call.operands]; right; simpa using hx)
    -- what is called
    have hkind : (∃ g caps, evW tm f = .fn g caps) ∨ (∃ b, evW tm f = .yld b) := by
      unfold xcallF at hH2
      simp only at hH2
      split at hH2
      · next r s2 top1 hc1 =>
        have := (hH _ _ _ _ _ _ _ hc1).2
        revert this
        generalize evW tm f = cf
        intro this
        cases cf <;> first | exact .inl ⟨_, _, rfl⟩ | exact .inr ⟨_, rfl⟩ | exact this.elim
      · cases hH2
    rcases hkind with ⟨g, caps, hcf⟩ | ⟨b, hcf⟩
    · rw [hcf] at hf ⊢
      obtain ⟨arr, hf', hcaps⟩ := hf
      refine .inl ⟨g, caps, args.toList.map a.eval ++ arr.toList, rfl, fun henter => ?_, RWs_append hargs hcaps⟩
      simp only [execOp, ho, resolve, Deferred.ofValue, hf', Sem.run_bind, Sem.run_pure, Result.andThen_ok, invoke]
      have e : (#[] ++ args.map a.eval ++ arr) = (args.toList.map a.eval ++ arr.toList).toArray := by
        apply Array.ext'
        simp
      rw [e, henter]
    · rw [hcf] at hf ⊢
      obtain ⟨g, C, hm, hf'⟩ := hf
      refine .inr ⟨⟨b, args.toList.map a.eval, rfl, fun g' C' hm' => ⟨fun n hy => ?_, hargs⟩⟩, b, g, C, rfl, hm⟩
      rw [hm] at hm'; cases hm'
      simp only [execOp, ho, resolve, Deferred.ofValue, hf', Sem.run_bind, Sem.run_pure, Result.andThen_ok, invoke]
      have e : (#[] ++ args.map a.eval) = (args.toList.map a.eval).toArray := by
        apply Array.ext'
        simp
      rw [e, hy]
  · next r name args ts ho =>
    split at hx
    · next t y hcf =>
      split at hx
      · next g hi =>
        refine called _ _ (by simp [ho, isCallO]) (fun _ _ _ _ => trivial) hx ?_
        intro tm2 m a w ht hops
        have hf : RW m (evW tm r) (a.eval r) := hops r (by simp [ho, Op.operands, Call.operands])
        have hargs := args_d (m := m) (tm := tm) (a := a) (l := args.toList) fun x hx => hops x (by simp [ho, Op.operands, Call.operands]; right; simpa using hx)
        rw [hcf] at hf
        obtain ⟨z, hf', hz⟩ := hf
        refine .inl ⟨g, [], z :: args.toList.map a.eval, rfl, fun henter => ?_, by rw [List.append_nil]; exact ⟨⟨hz, fun e => by cases e⟩, hargs⟩⟩
        have e : (#[Value.iface t z] ++ args.map a.eval).extract 1 (#[Value.iface t z] ++ args.map a.eval).size = args.map a.eval := by
          apply Array.ext'
          simp
          exact List.take_of_length_le (by simp)
        have e2 : (#[z] ++ args.map a.eval) = (z :: args.toList.map a.eval).toArray := by apply Array.ext'; simp
        have e3 : (#[Value.iface t z] ++ args.map a.eval)[0]? = some (Value.iface t z) := by
          rw [Array.getElem?_append_left (by simp)]; rfl
        have hrun : (execOp a.eval o).run P w = (callMethod (.iface t z) name (args.map a.eval)).run P w := by
          have h1 : (invoke (.fn (.method name) #[]) (#[Value.iface t z] ++ args.map a.eval)).run P w = (callMethod (.iface t z) name (args.map a.eval)).run P w := by
            unfold invoke
            simp only [e3, e]
          rw [← h1, ← hf']
          simp only [execOp, ho, resolve, Sem.run_bind, Sem.run_pure, Result.andThen_ok]
        rw [hrun, invoke_run hi henter, e2]
      · cases hx
    · cases hx
  · next hno hno2 =>
    refine plain ?_ hx
    cases ho : o.op with
    | call c =>
      obtain ⟨callee, args, ts⟩ := c
      cases callee with
      | value f => exact absurd ho (hno _ _ _)
      | invoke r n => exact absurd ho (hno2 _ _ _ _)
      | _ => rfl
    | _ => rfl
end
end
end Go.Ev.Mi
/- The mirror machine: regions, in the order of the text, and in whatever order. -/
set_option linter.unusedVariables false
set_option linter.unusedSimpArgs false
namespace Go.Ev.Mi
open Go.RowKit
noncomputable section

/-- A deferred call, or a range's mark. -/
inductive DW where
  | mark (b : Nat)
  | call (g : FuncId) (args caps : List W)

def RD (m : MM) : DW → Deferred → Prop
  | .mark b, d => ∃ g C, m b = some (g, C) ∧ d = { target := .collected g, args := #[] }
  | .call g args caps, d => ∃ (vs cs : List Value), d = { target := .fn (.func g) cs.toArray, args := vs.toArray } ∧ RWs m false args vs ∧ RWs m false caps cs
def RDs (m : MM) : List DW → List Deferred → Prop
  | [], [] => True
  | x :: xs, d :: ds => RD m x d ∧ RDs m xs ds
  | _, _ => False
theorem RD.mono {m m' : MM} (hm : ∀ b y, m b = some y → m' b = some y) : ∀ {x : DW} {d : Deferred}, RD m x d → RD m' x d
  | .mark b, d, ⟨g, C, h1, h2⟩ => ⟨g, C, hm _ _ h1, h2⟩
  | .call g args caps, d, ⟨vs, cs, h1, h2, h3⟩ => ⟨vs, cs, h1, RWs.mono hm _ _ h2, RWs.mono hm _ _ h3⟩
theorem RDs.mono {m m' : MM} (hm : ∀ b y, m b = some y → m' b = some y) : ∀ {xs : List DW} {ds : List Deferred}, RDs m xs ds → RDs m' xs ds
  | [], [], _ => trivial
  | _ :: _, _ :: _, ⟨h1, h2⟩ => ⟨h1.mono hm, h2.mono hm⟩
  | [], _ :: _, h => h.elim
  | _ :: _, [], h => h.elim

/-- What a slot holds whose operation was passed over. -/
abbrev vS : W := .tup []
theorem RW_vS {m : MM} : RW m vS undef := ⟨#[], rfl, trivial⟩

def wantW (all : List Oper) (tm : TW) : Option (Nat × Bool) → Option Bool
  | none => some true
  | some (j, w) => match (all[j]?).bind (·.dst) with
    | none => none
    | some d => match (look tm d).getD .top with
      | .v (.bool b) => some (b == w)
      | .tup _ => some false
      | _ => none

section
variable {P : Program} {O : Nat → Prop} {w0 : World} {M0 : MM} {N0 : Nat} {U : Nat → Prop} {m : MM} {sz : Nat} {tm : TW} {st : SB} {a : Act} {w : World}

theorem RelM.yielded_b (h : RelM O w0 M0 N0 U m sz tm st a w) {ops : Array Oper} {j d : Nat} {b : Bool} (hd : (ops.toList[j]?).bind (·.dst) = some d) (hb : (look tm d).getD .top = .v (.bool b)) : Go.yielded ops a.tmps j = some b := by
  have h1 := h.htm d
  rw [hb] at h1
  have h2 : a.tmps.getD d undef = .bool b := h1
  have h3 : a.tmps[d]? = some (.bool b) := by
    rw [Array.getD_eq_getD_getElem?] at h2
    cases h4 : a.tmps[d]? with
    | none => rw [h4] at h2; simp [undef] at h2
    | some v => rw [h4] at h2; simp at h2; rw [h2]
  rw [Array.getElem?_toList] at hd
  simp [Go.yielded, hd, h3]

theorem RelM.yielded_not (h : RelM O w0 M0 N0 U m sz tm st a w) {ops : Array Oper} {j d : Nat} {l : List W} (hd : (ops.toList[j]?).bind (·.dst) = some d) (hb : (look tm d).getD .top = .tup l) : Go.yielded ops a.tmps j = none := by
  have h1 := h.htm d
  rw [hb] at h1
  obtain ⟨arr, h2, _⟩ := h1
  rw [Array.getElem?_toList] at hd
  rw [Array.getD_eq_getD_getElem?] at h2
  cases h4 : a.tmps[d]? with
  | none => simp [Go.yielded, hd, h4]
  | some v =>
    rw [h4] at h2
    simp at h2
    subst h2
    simp [Go.yielded, hd, h4]

theorem RelM.wanted (h : RelM O w0 M0 N0 U m sz tm st a w) {ops : Array Oper} {o : Oper} {b : Bool} (hw : wantW ops.toList tm o.guard = some b) : Region.wanted o (Go.yielded ops a.tmps) = b := by
  unfold wantW at hw
  split at hw
  · next hg => cases hw; simp [Region.wanted, hg]
  · next j wt hg =>
    split at hw
    · cases hw
    · next d hd =>
      split at hw
      · next q hq =>
        cases hw
        have hy := h.yielded_b hd hq
        simp [Region.wanted, hg, hy]
      · next l hq =>
        cases hw
        have hy := h.yielded_not hd hq
        simp [Region.wanted, hg, hy]
      · cases hw
end

section
variable (P : Program) (H : WH)

def deferW (tm : TW) (c : Call) : Option DW := match c.callee with
  | .value f => match evW tm f with
    | .fn g caps => some (.call g (c.args.toList.map (evW tm)) caps)
    | _ => none
  | _ => none
def deferOp : Op → Option Call
  | .defer c => some c
  | _ => none

/-- The operations of a region, in the order of the text. free: outside a round. -/
def xopsW (free : Bool) (sz : Nat) (all : List Oper) : List Oper → Nat → TW → SB → List DW → Option (TW × SB × Nat × List DW)
  | [], top, tm, st, ds => some (tm, st, top, ds)
  | o :: os, top, tm, st, ds => match okDst sz o.dst with
    | false => none
    | true => match wantW all tm o.guard with
      | none => none
      | some false => xopsW free sz all os top (putW tm o.dst vS) st ds
      | some true => match deferOp o.op with
        | some c => match free, deferW tm c with
          | true, some d => xopsW free sz all os top (putW tm o.dst vS) st (d :: ds)
          | _, _ => none
        | none => match xstep P H top (top + 1) tm st o with
          | none => none
          | some (v, us, rs, top') => kN top' fun top' => xopsW free sz all os top' (putW tm o.dst v) (us ++ st) ds

/-- Is a step ordered behind another, through others between? -/
def behindB (ops : Array Oper) (j : Nat) : Nat → Oper → Bool
  | 0, _ => false
  | n + 1, o => o.after.any fun e => Region.binds .any e && (e.on == j || (Nat.ble (j + 1) e.on && match ops[e.on]? with
    | some o' => behindB ops j n o'
    | none => false))

/-- Has a step nothing in common with those before it that it is not ordered behind? -/
def indepM (ops : Array Oper) (o : Oper) (rs ws : List Nat) (call : Bool) (prev : List (Nat × Oper × List Nat × List Nat × Bool)) : Bool :=
  prev.all fun (j, oj, rj, wj, cj) => (o.after.any fun e => Region.binds .any e && e.on == j) ||
    (oj.apart ops o && (wj.all fun b => !memN rs b && !memN ws b) && (ws.all fun b => !memN rj b) && !(cj && call)) || behindB ops j 5 o

/-- The operations of a region whose order is open, in the order of the text. -/
def xopsO (sz : Nat) (ops : Array Oper) (nx : Nat) : List Oper → Nat → Nat → TW → SB → List (Nat × Oper × List Nat × List Nat × Bool) → Option (TW × SB × Nat)
  | [], _, top, tm, st, _ => some (tm, st, top)
  | o :: os, i, top, tm, st, prev => match okDst sz o.dst with
    | false => none
    | true => match wantW ops.toList tm o.guard with
      | none => none
      | some false => match indepM ops o [] [] false prev with
        | false => none
        | true => xopsO sz ops nx os (i + 1) top (putW tm o.dst vS) st ((i, o, [], [], false) :: prev)
      | some true => match deferOp o.op with
        | some _ => none
        | none => match xstep P H (nx + i) top tm st o with
          | none => none
          | some (v, us, rs, top') => match indepM ops o rs (us.map (·.1)) (isCallO o.op) prev with
            | false => none
            | true => kN top' fun top' => xopsO sz ops nx os (i + 1) top' (putW tm o.dst v) (us ++ st) ((i, o, rs, us.map (·.1), isCallO o.op) :: prev)
end

theorem deferOp_none {o : Oper} (h : deferOp o.op = none) : ∀ c, o.op ≠ .defer c := by
  intro c e
  rw [e] at h; cases h
theorem deferOp_some {o : Oper} {c : Call} (h : deferOp o.op = some c) : o.op = .defer c := by
  unfold deferOp at h
  split at h
  · next e => cases h; exact e
  · cases h

section
variable {P : Program} {H : WH}

theorem xopsW_sound (hH : HOK P H) {FF : Fence} (hW : Wide FF) {O : Nat → Prop} {w0 : World} {M0 : MM} {N0 : Nat} {free : Bool} (hfree : free = true → FF.round = none) {sz : Nat} {ops : Array Oper} {Q : Exit → Act → World → Prop} {tm' : TW} {st' : SB} {nx' : Nat} {ds' : List DW}
    (hn : ∀ m' a' w', RelM O w0 M0 N0 (fun b => nx' ≤ b) m' sz tm' st' a' w' → RDs m' ds' a'.defers → Q .normal a' w') :
    ∀ (l : List Oper) (k : Nat) (top : Nat) (m : MM) (tm : TW) (st : SB) (ds : List DW) (a : Act) (w : World), ops.toList.drop k = l → RelM O w0 M0 N0 (fun b => top ≤ b) m sz tm st a w → RDs m ds a.defers →
      xopsW P H free sz ops.toList l top tm st ds = some (tm', st', nx', ds') → wpOpsIn FF 0 P ops Q ((List.range ops.size).drop k) a w
  | [], k, top, m, tm, st, ds, a, w, hl, h, hD, hg => by
    have hk : ops.size ≤ k := by
      have := congrArg List.length hl
      simp at this
      omega
    rw [List.drop_of_length_le (by simpa using hk)]
    cases hg
    exact hn m a w h hD
  | o :: l, k, top, m, tm, st, ds, a, w, hl, h, hD, hg => by
    have hk : k < ops.size := by
      have := congrArg List.length hl
      simp at this
      omega
    have ho : ops[k]? = some o := by
      have : (ops.toList.drop k)[0]? = some o := by rw [hl]; rfl
      rw [List.getElem?_drop, Nat.add_zero, Array.getElem?_toList] at this
      exact this
    have hl' : ops.toList.drop (k + 1) = l := by
      rw [← List.drop_drop, hl]; rfl
    have hr : (List.range ops.size).drop k = k :: (List.range ops.size).drop (k + 1) := by
      rw [List.drop_eq_getElem_cons (by simpa using hk)]
      simp
    rw [hr]
    simp only [wpOpsIn, ho]
    simp only [xopsW] at hg
    split at hg
    · cases hg
    · next hd =>
      split at hg
      · cases hg
      · next hw =>
        have hw' := h.wanted hw
        rw [if_neg (by rw [hw']; simp)]
        exact ⟨fun f _ => hW.fn f, xopsW_sound hH hW hfree hn l (k + 1) top m _ st ds _ w hl' (h.put hd RW_vS) (by rw [put_defers]; exact hD) hg⟩
      · next hw =>
        have hw' := h.wanted hw
        rw [if_pos hw']
        split at hg
        · next c hc =>
          have hdo := deferOp_some hc
          split at hg
          · next d hdw =>
            have hro := hfree rfl
            unfold deferW at hdw
            split at hdw
            · next f hf =>
              split at hdw
              · next g caps hcf =>
                cases hdw
                have hfr := h.ev f
                rw [hcf] at hfr
                obtain ⟨arr, hf', hcaps⟩ := hfr
                have hargs := args_d (m := m) (tm := tm) (a := a) (l := c.args.toList) fun x _ => h.ev x
                have hrun : (execOp a.eval o).run P w = .ok (.defer { target := .fn (.func g) arr, args := #[] ++ c.args.map a.eval }) w := by
                  simp [execOp, hdo, resolve, hf, Deferred.ofValue, hf']
                refine ⟨fun f _ => hW.fn f, ?_⟩
                have hsem : o.semAt FF.round a.eval = execOp a.eval o := by rw [hro]; rfl
                rw [hsem, hrun]
                refine xopsW_sound hH hW hfree hn l (k + 1) top m _ st _ _ w hl' ?_ ?_ hg
                · exact (h.act (a' := { a with defers := _ :: a.defers }) h.htm h.hsz).put hd RW_vS
                · rw [put_defers]
                  refine ⟨⟨c.args.toList.map a.eval, arr.toList, ?_, hargs, hcaps⟩, hD⟩
                  have e : (#[] ++ c.args.map a.eval : Array Value) = (c.args.toList.map a.eval).toArray := by apply Array.ext'; simp
                  simp [e]
              · cases hdw
            · cases hdw
          · cases hg
        · next hnd =>
          split at hg
          · cases hg
          · next v us rs top1 hx =>
            rw [kN_eq] at hg
            obtain ⟨htt, hnc, hok⟩ := xstep_ok (ops := ops) hH hd hx
            refine hok tm st (fun _ _ => rfl) (fun _ _ => rfl) O w0 M0 N0 _ m a w _ Q h (Nat.le_refl _) (fun _ b hb => by omega) (fun m1 a1 w1 hR hmm hde => ?_) FF hW
            refine xopsW_sound hH hW hfree hn l (k + 1) top1 m1 _ _ ds _ w1 hl' (hR.weakU fun b hb => ⟨by omega, by omega, fun _ _ => hb⟩) (by rw [hde]; exact hD.mono hmm) hg

/-- A step of a region whose order is open: what it reads, writes, its value; is it a call; the new numbers before and after. -/
structure FPt where
  rs : List Nat
  us : SB
  v : W
  call : Bool
  tin : Nat
  tout : Nat

def DoneM (P : Program) (sz : Nat) (ops : Array Oper) (nx i : Nat) (o : Oper) (tm : TW) (L : Nat → Option B) (f : FPt) : Prop :=
  f.call = isCallO o.op ∧ StepOK P sz ops o (nx + i) f.tin tm L f.rs f.us f.v f.tout
def SkipM (f : FPt) : Prop := f.rs = [] ∧ f.us = [] ∧ f.v = vS ∧ f.call = false

def stepM (P : Program) (sz : Nat) (ops : Array Oper) (nx i : Nat) (o : Oper) (tm : TW) (L : Nat → Option B) (f : FPt) : Prop :=
  okDst sz o.dst = true ∧ match o.guard with
    | none => DoneM P sz ops nx i o tm L f
    | some (j, want) => ∃ d, (ops.toList[j]?).bind (·.dst) = some d ∧ ((∃ b, (look tm d).getD .top = .v (.bool b) ∧ (if b = want then DoneM P sz ops nx i o tm L f else SkipM f)) ∨ ((∃ l, (look tm d).getD .top = .tup l) ∧ SkipM f))

def TrM (P : Program) (sz : Nat) (ops : Array Oper) (nx : Nat) : List (Nat × Oper) → TW → SB → List FPt → Prop
  | [], _, _, [] => True
  | (i, o) :: l, tm, st, f :: fs => stepM P sz ops nx i o tm (look st) f ∧ TrM P sz ops nx l (putW tm o.dst f.v) (f.us ++ st) fs
  | _, _, _, _ => False

def endTw : List (Nat × Oper) → TW → List FPt → TW
  | (_, o) :: l, tm, f :: fs => endTw l (putW tm o.dst f.v) fs
  | _, tm, _ => tm
def endSb : List FPt → SB → SB
  | f :: fs, st => endSb fs (f.us ++ st)
  | [], st => st
def endTop : Nat → List FPt → Nat
  | t, [] => t
  | t, f :: fs => endTop (match f.call with | true => f.tout | false => t) fs
def ChainM : Nat → List FPt → Prop
  | _, [] => True
  | t, f :: fs => (f.call = true → t ≤ f.tin ∧ f.tin ≤ f.tout) ∧ ChainM (match f.call with | true => f.tout | false => t) fs

theorem chain_first {f : FPt} {f2 : List FPt} : ∀ {f1 : List FPt} {t : Nat}, (∀ g ∈ f1, f.call = false ∨ g.call = false) → ChainM t (f1 ++ f :: f2) → ChainM t (f :: (f1 ++ f2)) ∧ endTop t (f :: (f1 ++ f2)) = endTop t (f1 ++ f :: f2)
  | [], t, _, h => ⟨h, rfl⟩
  | g :: f1, t, hf, h => by
    obtain ⟨h1, h2⟩ := h
    obtain ⟨⟨q1, q2⟩, q3⟩ := chain_first (fun x hx => hf x (List.mem_cons_of_mem _ hx)) h2
    simp only [List.cons_append, endTop] at q3 ⊢
    rcases hf g List.mem_cons_self with e | e
    · simp only [e] at q2 q3 ⊢
      exact ⟨⟨fun e' => (by rw [e] at e'; cases e'), by rw [e]; exact ⟨h1, q2⟩⟩, q3⟩
    · simp only [e] at q1 q2 q3 ⊢
      refine ⟨⟨q1, ⟨fun e' => (by rw [e] at e'; cases e'), by rw [e]; exact q2⟩⟩, q3⟩

theorem stepM_congr {sz : Nat} {ops : Array Oper} {nx i : Nat} {o : Oper} {tm tm' : TW} {L L' : Nat → Option B} {f : FPt} (h : stepM P sz ops nx i o tm L f)
    (ht : ∀ t ∈ o.looksAt ops, look tm' t = look tm t) (hL : ∀ b ∈ f.rs, L' b = L b) : stepM P sz ops nx i o tm' L' f := by
  have done : DoneM P sz ops nx i o tm L f → DoneM P sz ops nx i o tm' L' f := fun ⟨h1, h2⟩ => ⟨h1, fun tm2 st2 e1 e2 => h2 tm2 st2 (fun t hm => (e1 t hm).trans (ht t hm)) (fun b hb => (e2 b hb).trans (hL b hb))⟩
  obtain ⟨h1, h2⟩ := h
  refine ⟨h1, ?_⟩
  cases hg : o.guard with
  | none =>
    rw [hg] at h2
    exact done h2
  | some q =>
    obtain ⟨j, want⟩ := q
    rw [hg] at h2
    simp only at h2 ⊢
    obtain ⟨d, e1, e23⟩ := h2
    have hd : look tm' d = look tm d := by
      rw [ht d]
      unfold Oper.looksAt
      refine List.mem_append.2 (.inr ?_)
      rw [hg]
      rw [Array.getElem?_toList] at e1
      simp [e1]
    refine ⟨d, e1, ?_⟩
    rw [hd]
    rcases e23 with ⟨b, e2, e3⟩ | e2
    · refine .inl ⟨b, e2, ?_⟩
      split
      · next hb => rw [if_pos hb] at e3; exact done e3
      · next hb => rw [if_neg hb] at e3; exact e3
    · exact .inr e2

theorem Eqv.putW {s t : TW} (h : Eqv s t) (d : Option Nat) (v : W) : Eqv (putW s d v) (putW t d v) := by
  cases d with
  | none => exact h
  | some i => intro j; simp only [Mi.putW, look_cons, h j]

theorem TrM_congr {sz : Nat} {ops : Array Oper} {nx : Nat} : ∀ {l : List (Nat × Oper)} {tm tm' : TW} {st st' : SB} {fs : List FPt}, TrM P sz ops nx l tm st fs → Eqv tm' tm → Eqv st' st →
    TrM P sz ops nx l tm' st' fs ∧ Eqv (endTw l tm' fs) (endTw l tm fs) ∧ Eqv (endSb fs st') (endSb fs st)
  | [], tm, tm', st, st', [], h, e1, e2 => ⟨trivial, e1, e2⟩
  | [], _, _, _, _, _ :: _, h, _, _ => h.elim
  | _ :: _, _, _, _, _, [], h, _, _ => by simp [TrM] at h
  | (i, o) :: l, tm, tm', st, st', f :: fs, ⟨h1, h2⟩, e1, e2 => by
    obtain ⟨q1, q2, q3⟩ := TrM_congr h2 (Eqv.putW e1 o.dst f.v) (e2.cons f.us)
    exact ⟨⟨stepM_congr h1 (fun t _ => e1 t) (fun b _ => e2 b), q1⟩, q2, q3⟩

/-- Two steps that have nothing in common. -/
def IndepM (ops : Array Oper) (x y : Oper) (f g : FPt) : Prop :=
  x.apart ops y = true ∧ (∀ b ∈ f.us.map (·.1), b ∉ g.rs ∧ b ∉ g.us.map (·.1)) ∧ (∀ b ∈ g.us.map (·.1), b ∉ f.rs) ∧ (g.call = false ∨ f.call = false)

theorem look_putW_ne {tm : TW} {d : Option Nat} {v : W} {t : Nat} (h : d ≠ some t) : look (putW tm d v) t = look tm t := by
  cases d with
  | none => rfl
  | some i => rw [putW, look_cons, if_neg (fun e => h (by rw [e]))]

/-- A step that is independent of those before it can be taken first. -/
theorem TrM_first {sz : Nat} {ops : Array Oper} {nx : Nat} : ∀ {l1 l2 : List (Nat × Oper)} {i : Nat} {o : Oper} {tm : TW} {st : SB} {f1 f2 : List FPt} {f : FPt}, l1.length = f1.length → TrM P sz ops nx (l1 ++ (i, o) :: l2) tm st (f1 ++ f :: f2) →
    (∀ (k : Nat) (p : Nat × Oper) (g : FPt), l1[k]? = some p → f1[k]? = some g → IndepM ops p.2 o g f) →
    TrM P sz ops nx ((i, o) :: (l1 ++ l2)) tm st (f :: (f1 ++ f2)) ∧ Eqv (endTw ((i, o) :: (l1 ++ l2)) tm (f :: (f1 ++ f2))) (endTw (l1 ++ (i, o) :: l2) tm (f1 ++ f :: f2)) ∧
      Eqv (endSb (f :: (f1 ++ f2)) st) (endSb (f1 ++ f :: f2) st)
  | [], l2, i, o, tm, st, [], f2, f, _, h, _ => ⟨h, fun _ => rfl, fun _ => rfl⟩
  | [], _, _, _, _, _, _ :: _, _, _, hl, _, _ => by simp at hl
  | _ :: _, _, _, _, _, _, [], _, _, hl, _, _ => by simp at hl
  | (j, oj) :: l1, l2, i, o, tm, st, g :: f1, f2, f, hl, h, hi => by
    obtain ⟨h1, h2⟩ := h
    obtain ⟨q1, q2, q3⟩ := TrM_first (by simpa using hl) h2 (fun k p g hp hg => hi (k + 1) p g (by simpa using hp) (by simpa using hg))
    obtain ⟨q4, q5⟩ := q1
    obtain ⟨i1, i2, i3, _⟩ := hi 0 _ _ rfl rfl
    obtain ⟨a1, a2, a3⟩ := Oper.apart_spec i1
    simp only at i2 i3 a1 a2 a3
    have e1 : stepM P sz ops nx i o tm (look st) f := stepM_congr q4 (fun t ht => by
      rw [look_putW_ne]
      intro e
      exact a1 t e ht) (fun b hb => by
      rw [look_append, look_none (fun hm => (i2 b hm).1 hb)]; rfl)
    have e2 : stepM P sz ops nx j oj (putW tm o.dst f.v) (look (f.us ++ st)) g := stepM_congr h1 (fun t ht => look_putW_ne fun e => a3 t e ht) (fun b hb => by
      rw [look_append, look_none (fun hm => i3 b hm hb)]; rfl)
    have et : Eqv (putW (putW tm o.dst f.v) oj.dst g.v) (putW (putW tm oj.dst g.v) o.dst f.v) := by
      intro t
      by_cases c1 : oj.dst = some t
      · have c2 : o.dst ≠ some t := a2 t c1
        rw [look_putW_ne c2, c1]
        simp only [putW, look_cons, if_true]
      · rw [look_putW_ne c1]
        by_cases c2 : o.dst = some t
        · rw [c2]; simp only [putW, look_cons, if_true]
        · rw [look_putW_ne c2, look_putW_ne c2, look_putW_ne c1]
    have es : Eqv (g.us ++ (f.us ++ st)) (f.us ++ (g.us ++ st)) := by
      intro b
      rw [look_append, look_append, look_append, look_append]
      by_cases c1 : b ∈ g.us.map (·.1)
      · rw [look_none (us := f.us) (i2 b c1).2]; simp
      · rw [look_none c1]; simp
    obtain ⟨t1, t2, t3⟩ := TrM_congr q5 et es
    exact ⟨⟨e1, e2, t1⟩, fun t => (t2 t).trans (q2 t), fun b => (t3 b).trans (q3 b)⟩

/-- A step is ordered behind another. -/
inductive BehindM (ops : Array Oper) (i : Nat) : Oper → Prop where
  | direct {o : Oper} (e : Edge) : e ∈ o.after → Region.binds .any e = true → e.on = i → BehindM ops i o
  | via {o o' : Oper} (e : Edge) : e ∈ o.after → Region.binds .any e = true → ops[e.on]? = some o' → BehindM ops i o' → BehindM ops i o

theorem behindB_spec {ops : Array Oper} {j : Nat} : ∀ (n : Nat) (o : Oper), behindB ops j n o = true → BehindM ops j o
  | 0, _, h => by cases h
  | n + 1, o, h => by
    unfold behindB at h
    rw [Array.any_eq_true] at h
    obtain ⟨q, hq, hb⟩ := h
    simp only [Bool.and_eq_true, Bool.or_eq_true, beq_iff_eq] at hb
    obtain ⟨hb, h1 | ⟨_, h2⟩⟩ := hb
    · exact .direct _ (Array.getElem_mem hq) hb h1
    · split at h2
      · next o' ho => exact .via _ (Array.getElem_mem hq) hb ho (behindB_spec n o' h2)
      · cases h2

theorem behind_listed {ops : Array Oper} {listed : Array Bool} (hcl : ∀ j o', ops[j]? = some o' → listed.getD j true = true → ∀ e ∈ o'.after, Region.binds .any e = true → listed.getD e.on true = true) {j : Nat} {o : Oper} (h : BehindM ops j o)
    (ho : ∀ e ∈ o.after, Region.binds .any e = true → listed.getD e.on true = true) : listed.getD j true = true := by
  induction h with
  | direct e he hb hj => subst hj; exact ho e he hb
  | via e he hb ho' _ ih => exact ih fun e' he' hb' => hcl _ _ ho' (ho e he hb) e' he' hb'

theorem set_listed {listed : Array Bool} {i k : Nat} (h : listed.getD k true = true) : (listed.setIfInBounds i true).getD k true = true := by
  by_cases hk : i = k
  · subst hk
    rw [Array.getD_eq_getD_getElem?, Array.getElem?_setIfInBounds]
    simp
    split <;> rfl
  · rw [Array.getD_eq_getD_getElem?, Array.getElem?_setIfInBounds_ne hk, ← Array.getD_eq_getD_getElem?]
    exact h

/-- Ordered, or independent. -/
def FreeM (ops : Array Oper) (p q : Nat × Oper) (f g : FPt) : Prop := BehindM ops p.1 q.2 ∨ IndepM ops p.2 q.2 f g

theorem memN_mem {b : Nat} : ∀ {l : List Nat}, b ∈ l → memN l b = true
  | [], h => by cases h
  | c :: l, h => by
    rw [memN_cons]
    rcases List.mem_cons.1 h with rfl | h
    · simp
    · rw [memN_mem h]; simp

theorem indepM_spec {ops : Array Oper} {i : Nat} {o : Oper} {prev : List (Nat × Oper × List Nat × List Nat × Bool)} {f g : FPt} (h : indepM ops o g.rs (g.us.map (·.1)) g.call prev = true) {j : Nat} {oj : Oper}
    (hm : (j, oj, f.rs, f.us.map (·.1), f.call) ∈ prev) : FreeM ops (j, oj) (i, o) f g := by
  have := List.all_eq_true.1 h _ hm
  simp only [Bool.or_eq_true, Bool.and_eq_true, List.all_eq_true, Bool.not_eq_true'] at this
  rcases this with (h5 | ⟨⟨⟨h5, h6⟩, h7⟩, h8⟩) | h5
  rotate_left 2
  · exact .inl (behindB_spec _ _ h5)
  · left
    rw [Array.any_eq_true] at h5
    obtain ⟨q, hq, hb⟩ := h5
    simp only [Bool.and_eq_true, beq_iff_eq] at hb
    exact .direct _ (Array.getElem_mem hq) hb.1 hb.2
  · right
    refine ⟨h5, fun b hb => ?_, fun b hb => ?_, ?_⟩
    · have := h6 b hb
      exact ⟨fun e => (by rw [memN_mem e] at this; cases this.1), fun e => (by rw [memN_mem e] at this; cases this.2)⟩
    · have := h7 b hb
      exact fun e => (by rw [memN_mem e] at this; cases this)
    · cases e1 : f.call <;> cases e2 : g.call <;> simp_all

def TrExM (P : Program) (sz : Nat) (ops : Array Oper) (nx : Nat) (tmE : TW) (stE : SB) (topE : Nat) (os : List Oper) (i top : Nat) (tm : TW) (st : SB) (prev : List (Nat × Oper × List Nat × List Nat × Bool)) : Prop :=
    ∃ fs : List FPt, fs.length = os.length ∧ TrM P sz ops nx (enumL i os) tm st fs ∧ (endTw (enumL i os) tm fs = tmE ∧ endSb fs st = stE ∧ endTop top fs = topE ∧ ChainM top fs ∧ top ≤ topE) ∧
      (∀ (a b : Nat) (p q : Nat × Oper) (f g : FPt), a < b → (enumL i os)[a]? = some p → (enumL i os)[b]? = some q → fs[a]? = some f → fs[b]? = some g → FreeM ops p q f g) ∧
      (∀ (b : Nat) (q : Nat × Oper) (f g : FPt) (j : Nat) (oj : Oper), (j, oj, f.rs, f.us.map (·.1), f.call) ∈ prev → (enumL i os)[b]? = some q → fs[b]? = some g → FreeM ops (j, oj) q f g)

theorem wantW_br {all : List Oper} {tm : TW} {o : Oper} {b : Bool} (hw : wantW all tm o.guard = some b) : (o.guard = none ∧ b = true) ∨ (∃ j wt d q, o.guard = some (j, wt) ∧ (all[j]?).bind (·.dst) = some d ∧ (look tm d).getD .top = .v (.bool q) ∧ b = (q == wt)) ∨ (b = false ∧ ∃ j wt d l, o.guard = some (j, wt) ∧ (all[j]?).bind (·.dst) = some d ∧ (look tm d).getD .top = .tup l) := by
  unfold wantW at hw
  split at hw
  · next hg => cases hw; exact .inl ⟨hg, rfl⟩
  · next j wt hg =>
    split at hw
    · cases hw
    · next d hd =>
      split at hw
      · next q hq => cases hw; exact .inr (.inl ⟨j, wt, d, q, hg, hd, hq, rfl⟩)
      · next l hq => cases hw; exact .inr (.inr ⟨rfl, j, wt, d, l, hg, hd, hq⟩)
      · cases hw

theorem xopsO_tr (hH : HOK P H) {sz : Nat} {ops : Array Oper} {nx : Nat} {tmE : TW} {stE : SB} {topE : Nat} : ∀ (os : List Oper) (i top : Nat) (tm : TW) (st : SB) (prev : List (Nat × Oper × List Nat × List Nat × Bool)),
    xopsO P H sz ops nx os i top tm st prev = some (tmE, stE, topE) → TrExM P sz ops nx tmE stE topE os i top tm st prev
  | [], i, top, tm, st, prev, h => by cases h; exact ⟨[], rfl, trivial, ⟨rfl, rfl, rfl, trivial, Nat.le_refl _⟩, by simp [enumL], by simp [enumL]⟩
  | o :: os, i, top, tm, st, prev, h => by
    simp only [xopsO] at h
    split at h
    · cases h
    · next hd =>
      have main : ∀ (f : FPt) (top1 : Nat), stepM P sz ops nx i o tm (look st) f → (f.call = true → top ≤ f.tin ∧ f.tin ≤ f.tout) → top1 = (match f.call with | true => f.tout | false => top) → indepM ops o f.rs (f.us.map (·.1)) f.call prev = true →
          xopsO P H sz ops nx os (i + 1) top1 (putW tm o.dst f.v) (f.us ++ st) ((i, o, f.rs, f.us.map (·.1), f.call) :: prev) = some (tmE, stE, topE) →
          TrExM P sz ops nx tmE stE topE (o :: os) i top tm st prev := by
        intro f top1 hs hc ht hind hm
        obtain ⟨fs, q1, q2, ⟨q3, q3b, q3c, q3d, q3e⟩, q4, q5⟩ := xopsO_tr hH os (i + 1) _ _ _ _ hm
        refine ⟨f :: fs, by simp [q1], ⟨hs, q2⟩, ⟨q3, q3b, by simp only [endTop]; rw [← ht]; exact q3c, ⟨hc, by rw [← ht]; exact q3d⟩, ?_⟩, ?_, ?_⟩
        · refine Nat.le_trans ?_ q3e
          rw [ht]
          cases hcc : f.call with
          | true => have := hc hcc; simp only; omega
          | false => exact Nat.le_refl _
        · intro a b p q f' g hab hp hq hf hg
          cases b with
          | zero => omega
          | succ b =>
            simp only [enumL, List.getElem?_cons_succ] at hq hg
            cases a with
            | zero =>
              simp only [enumL, List.getElem?_cons_zero, Option.some.injEq] at hp hf
              subst hp hf
              exact q5 b q f g i o (by simp) hq hg
            | succ a =>
              simp only [enumL, List.getElem?_cons_succ] at hp hf
              exact q4 a b p q f' g (by omega) hp hq hf hg
        · intro b q f' g j oj hmem hq hg
          cases b with
          | zero =>
            simp only [enumL, List.getElem?_cons_zero, Option.some.injEq] at hq hg
            subst hq hg
            exact indepM_spec hind hmem
          | succ b =>
            simp only [enumL, List.getElem?_cons_succ] at hq hg
            exact q5 b q f' g j oj (by simp [hmem]) hq hg
      split at h
      · cases h
      · next hw =>
        split at h
        · cases h
        · next hind =>
          refine main ⟨[], [], vS, false, top, top⟩ top ⟨hd, ?_⟩ (fun e => by cases e) rfl hind h
          rcases wantW_br hw with ⟨_, hb⟩ | ⟨j, wt, d, q, hg, hdj, hq, hb⟩ | ⟨_, j, wt, d, l, hg, hdj, hq⟩
          · cases hb
          · rw [hg]
            refine ⟨d, hdj, .inl ⟨q, hq, ?_⟩⟩
            rw [if_neg (by rintro rfl; simp at hb)]
            exact ⟨rfl, rfl, rfl, rfl⟩
          · rw [hg]
            exact ⟨d, hdj, .inr ⟨⟨l, hq⟩, rfl, rfl, rfl, rfl⟩⟩
      · next hw =>
        split at h
        · cases h
        · split at h
          · cases h
          · next v us rs top' hx =>
            split at h
            · cases h
            · next hind =>
              rw [kN_eq] at h
              obtain ⟨htt, hnc, hok⟩ := xstep_ok (ops := ops) hH hd hx
              refine main ⟨rs, us, v, isCallO o.op, top, top'⟩ top' ⟨hd, ?_⟩ (fun _ => ⟨Nat.le_refl _, htt⟩) ?_ hind h
              · rcases wantW_br hw with ⟨hg, _⟩ | ⟨j, wt, d, q, hg, hdj, hq, hb⟩ | ⟨hb, _⟩
                · rw [hg]; exact ⟨rfl, hok⟩
                · rw [hg]
                  refine ⟨d, hdj, .inl ⟨q, hq, ?_⟩⟩
                  rw [if_pos (by simpa using hb.symm)]
                  exact ⟨rfl, hok⟩
                · cases hb
              · simp only
                cases hc : isCallO o.op with
                | true => rfl
                | false => exact hnc hc

/-- What is left to be done, while some are done. -/
structure LeftW (ops : Array Oper) (listed : Array Bool) (l : List (Nat × Oper)) (fs : List FPt) : Prop where
  len : l.length = fs.length
  mem : ∀ i o, (i, o) ∈ l → ops[i]? = some o ∧ listed.getD i true = false
  all : ∀ i o, ops[i]? = some o → listed.getD i true = false → (i, o) ∈ l
  asc : l.Pairwise (fun p q => p.1 < q.1)
  free : ∀ (a b : Nat) (p q : Nat × Oper) (f g : FPt), a < b → l[a]? = some p → l[b]? = some q → fs[a]? = some f → fs[b]? = some g → FreeM ops p q f g
  size : listed.size = ops.size
  closed : ∀ j o', ops[j]? = some o' → listed.getD j true = true → ∀ e ∈ o'.after, Region.binds .any e = true → listed.getD e.on true = true

theorem anyOrderM {FF : Fence} (hW : Wide FF) {sz : Nat} {ops : Array Oper} {nx : Nat} (hahead : ∀ i o, ops[i]? = some o → ∀ e ∈ o.after, Region.binds .any e = true → e.on < i) {O : Nat → Prop} {w0 : World} {M0 : MM} {N0 : Nat} {ds : List DW} {Q : Exit → Act → World → Prop} {tmE : TW} {stE : SB} {topE : Nat} (hsE : nx + ops.size ≤ topE)
    (hend : ∀ m a w, RelM O w0 M0 N0 (fun b => topE ≤ b) m sz tmE stE a w → RDs m ds a.defers → Q .normal a w) :
    ∀ (n : Nat) (listed : Array Bool) (l : List (Nat × Oper)) (fs : List FPt) (tc : Nat) (m : MM) (tm : TW) (st : SB) (a : Act) (w : World), l.length = n → LeftW ops listed l fs →
      RelM O w0 M0 N0 (fun b => (nx ≤ b ∧ (b < nx + ops.size → listed.getD (b - nx) true = false)) ∧ (nx + ops.size ≤ b → tc ≤ b)) m sz tm st a w → RDs m ds a.defers → TrM P sz ops nx l tm st fs → nx + ops.size ≤ tc → ChainM tc fs → endTop tc fs = topE →
      Eqv (endTw l tm fs) tmE → Eqv (endSb fs st) stE →
      wpAnyIn FF 0 P .any ops Q n listed a w
  | 0, listed, l, fs, tc, m, tm, st, a, w, hn, hL, h, hD, ht, htc, hch, hte, e1, e2 => by
    obtain rfl : l = [] := List.eq_nil_of_length_eq_zero hn
    obtain rfl : fs = [] := List.eq_nil_of_length_eq_zero (by rw [← hL.len]; rfl)
    have hr : Region.ready .any ops listed = [] := by
      cases hr : Region.ready .any ops listed with
      | nil => rfl
      | cons i rs =>
        obtain ⟨h1, o, ho, _⟩ := mem_ready.1 (show i ∈ Region.ready .any ops listed by rw [hr]; simp)
        cases hL.all i o ho h1
    have hte : tc = topE := hte
    exact ⟨hr, hend m a w (((h.congrT fun j => (e1 j).symm).congr fun j => (e2 j).symm).weakU fun b hb => ⟨⟨by omega, fun hb2 => by omega⟩, fun _ => by omega⟩) hD⟩
  | n + 1, listed, l, fs, tc, m, tm, st, a, w, hn, hL, h, hD, ht, htc, hch, hte, e1, e2 => by
    refine ⟨fun hr => ?_, fun i hi => ?_⟩
    · -- some operation is ready
      exfalso
      match l, hn with
      | (i, o) :: l, _ =>
        obtain ⟨ho, hlist⟩ := hL.mem i o (by simp)
        have : i ∈ Region.ready .any ops listed := by
          refine mem_ready.2 ⟨hlist, o, ho, fun e he hb => ?_⟩
          have hlt := hahead i o ho e he hb
          have hi : i < ops.size := (Array.getElem?_eq_some_iff.1 ho).1
          have hel : e.on < listed.size := by rw [hL.size]; omega
          rw [getD_of_lt hel false true]
          cases hc : listed.getD e.on true with
          | true => rfl
          | false =>
            have hm := hL.all e.on ops[e.on] (by simp) hc
            have hasc := hL.asc
            simp only [List.pairwise_cons] at hasc
            rcases List.mem_cons.1 hm with hm | hm
            · have := congrArg Prod.fst hm; simp only at this; omega
            · have := hasc.1 _ hm; simp only at this; omega
        rw [hr] at this
        cases this
    · obtain ⟨hlist, o, ho, hpre⟩ := mem_ready.1 hi
      have hmem := hL.all i o ho hlist
      obtain ⟨l1, l2, rfl⟩ := split_at hmem
      obtain ⟨f1, f, f2, rfl, hl1, hl2⟩ := split_same hL.len
      have hi' : i < ops.size := (Array.getElem?_eq_some_iff.1 ho).1
      have hpre' : ∀ e ∈ o.after, Region.binds .any e = true → listed.getD e.on true = true := by
        intro e he hb
        have hjs : e.on < listed.size := by
          rw [hL.size]
          have := hahead i o ho e he hb
          omega
        have := hpre e he hb
        rwa [getD_of_lt hjs false true] at this
      have hind : ∀ (k : Nat) (p : Nat × Oper) (g : FPt), l1[k]? = some p → f1[k]? = some g → IndepM ops p.2 o g f := by
        intro k p g hp hg
        have hk : k < l1.length := (List.getElem?_eq_some_iff.1 hp).1
        have hfree := hL.free k l1.length p (i, o) g f hk (by rw [List.getElem?_append_left hk]; exact hp) (by simp) (by rw [List.getElem?_append_left (by omega)]; exact hg) (by rw [← hl1]; simp)
        rcases hfree with hbe | hind
        · exfalso
          obtain ⟨j, oj⟩ := p
          obtain ⟨_, hj⟩ := hL.mem j oj (List.mem_append.2 (.inl (List.mem_of_getElem? hp)))
          have := behind_listed hL.closed hbe hpre'
          rw [hj] at this
          cases this
        · exact hind
      obtain ⟨q1, q2, q3⟩ := TrM_first hl1.symm ht hind
      obtain ⟨c1, c2⟩ := chain_first (f := f) (f2 := f2) (f1 := f1) (t := tc) (by
        intro g hg
        obtain ⟨k, hk⟩ := List.getElem?_of_mem hg
        have hkl : k < l1.length := by rw [← hl1]; exact (List.getElem?_eq_some_iff.1 hk).1
        exact (hind k _ g (List.getElem?_eq_getElem hkl) hk).2.2.2) hch
      obtain ⟨s1, s2⟩ := q1
      obtain ⟨hd, hs⟩ := s1
      obtain ⟨hcall, hch2⟩ := c1
      -- what is left behind this step
      have hL2 : LeftW ops (listed.setIfInBounds i true) (l1 ++ l2) (f1 ++ f2) := by
        have hne : ∀ j o', (j, o') ∈ l1 ++ l2 → j ≠ i := by
          intro j o' hm
          have hasc := hL.asc
          rw [List.pairwise_append] at hasc
          obtain ⟨_, a2, a3⟩ := hasc
          simp only [List.pairwise_cons] at a2
          rcases List.mem_append.1 hm with hm | hm
          · have := a3 _ hm (i, o) (by simp); simp only at this; omega
          · have := a2.1 _ hm; simp only at this; omega
        refine { len := by simp [hl1, hl2], mem := ?_, all := ?_, asc := ?_, free := ?_, size := by simp [hL.size], closed := ?_ }
        rotate_left 4
        · intro j o' hj hl e he hb
          by_cases hji : j = i
          · subst hji
            rw [ho] at hj; cases hj
            exact set_listed (hpre' e he hb)
          · rw [Array.getD_eq_getD_getElem?, Array.getElem?_setIfInBounds_ne (fun e => hji e.symm), ← Array.getD_eq_getD_getElem?] at hl
            exact set_listed (hL.closed j o' hj hl e he hb)
        · intro j o' hm
          obtain ⟨h1, h2⟩ := hL.mem j o' (by rcases List.mem_append.1 hm with hm | hm <;> simp [hm])
          refine ⟨h1, ?_⟩
          rw [Array.getD_eq_getD_getElem?, Array.getElem?_setIfInBounds_ne (fun e => hne j o' hm e.symm), ← Array.getD_eq_getD_getElem?]
          exact h2
        · intro j o' hj hl
          have hji : j ≠ i := by
            rintro rfl
            simp [Array.getD_eq_getD_getElem?, hL.size, hi'] at hl
          rw [Array.getD_eq_getD_getElem?, Array.getElem?_setIfInBounds_ne (fun e => hji e.symm), ← Array.getD_eq_getD_getElem?] at hl
          have := hL.all j o' hj hl
          rcases List.mem_append.1 this with hm | hm
          · exact List.mem_append.2 (.inl hm)
          · cases hm with
            | head => exact absurd rfl hji
            | tail _ hm => exact List.mem_append.2 (.inr hm)
        · have hasc := hL.asc
          exact hasc.sublist (List.Sublist.append_left (List.sublist_cons_self _ _) _)
        · intro x y p q f' g hxy hp hq hf hg
          -- positions with the step taken out
          have up : ∀ {α : Type} {A B : List α} {c : α} {k : Nat} {z : α}, (A ++ B)[k]? = some z → (A ++ c :: B)[if k < A.length then k else k + 1]? = some z := by
            intro α A B c k z hz
            by_cases hk : k < A.length
            · rw [if_pos hk, List.getElem?_append_left hk]
              rwa [List.getElem?_append_left hk] at hz
            · rw [if_neg hk, List.getElem?_append_right (by omega)]
              rw [List.getElem?_append_right (by omega)] at hz
              have : k + 1 - A.length = k - A.length + 1 := by omega
              rw [this, List.getElem?_cons_succ]
              exact hz
          have hp' := up (c := (i, o)) hp
          have hq' := up (c := (i, o)) hq
          have hf' := up (c := f) hf
          have hg' := up (c := f) hg
          rw [hl1] at hf' hg'
          refine hL.free _ _ p q f' g ?_ hp' hq' hf' hg'
          split <;> split <;> omega
      have hU : ∀ b, (nx ≤ b ∧ (b < nx + ops.size → (listed.setIfInBounds i true).getD (b - nx) true = false)) → (nx ≤ b ∧ (b < nx + ops.size → listed.getD (b - nx) true = false)) ∧ b ≠ nx + i := by
        rintro b ⟨h1, h2⟩
        have hne : b ≠ nx + i := by
          rintro rfl
          have := h2 (by omega)
          rw [show nx + i - nx = i by omega] at this
          simp [Array.getD_eq_getD_getElem?, hL.size, hi'] at this
        refine ⟨⟨h1, fun hb => ?_⟩, hne⟩
        have := h2 hb
        rw [Array.getD_eq_getD_getElem?, Array.getElem?_setIfInBounds_ne (by omega), ← Array.getD_eq_getD_getElem?] at this
        exact this
      have next : ∀ (tc' : Nat) m' a' w', tc' = (match f.call with | true => f.tout | false => tc) → nx + ops.size ≤ tc' → RelM O w0 M0 N0 (fun b => ((nx ≤ b ∧ (b < nx + ops.size → (listed.setIfInBounds i true).getD (b - nx) true = false)) ∧ (nx + ops.size ≤ b → tc' ≤ b))) m' sz (putW tm o.dst f.v) (f.us ++ st) a' w' → RDs m' ds a'.defers →
          wpAnyIn FF 0 P .any ops Q n (listed.setIfInBounds i true) a' w' := by
        intro tc' m' a' w' htc' hge hR hD'
        have hte' : endTop tc (f :: (f1 ++ f2)) = topE := c2.trans hte
        simp only [endTop] at hte'
        rw [← htc'] at hte' hch2
        exact anyOrderM hW hahead hsE hend n _ (l1 ++ l2) (f1 ++ f2) tc' m' _ _ a' w' (by simp at hn ⊢; omega) hL2 hR hD' s2 hge hch2 hte' (fun j => (q2 j).trans (e1 j)) (fun j => (q3 j).trans (e2 j))
      have run : DoneM P sz ops nx i o tm (look st) f → o.wpIn FF 0 P a w (wpAnyIn FF 0 P .any ops Q n (listed.setIfInBounds i true)) Q := by
        rintro ⟨hc, hx⟩
        refine hx tm st (fun _ _ => rfl) (fun _ _ => rfl) O w0 M0 N0 _ m a w _ Q h ⟨⟨by omega, fun _ => by rw [show nx + i - nx = i by omega]; exact hlist⟩, fun hb => by omega⟩ (fun hcl b hb => ?_) (fun m' a' w' hR hmm hde => ?_) FF hW
        · obtain ⟨k1, k2⟩ := hcall (by rw [hc]; exact hcl)
          exact ⟨⟨by omega, fun _ => by omega⟩, fun _ => by omega⟩
        · refine next _ m' a' w' rfl ?_ (hR.weakU fun b hb => ?_) (by rw [hde]; exact hD.mono hmm)
          · cases hcc : f.call with
            | true => have := hcall hcc; simp only; omega
            | false => exact htc
          · obtain ⟨g1, g2⟩ := hU b hb.1
            cases hcc : f.call with
            | true =>
              obtain ⟨k1, k2⟩ := hcall hcc
              have hb2 := hb.2
              rw [hcc] at hb2
              simp only at hb2
              exact ⟨⟨g1, fun e => by have := hb2 e; omega⟩, g2, fun _ e => hb2 (by omega)⟩
            | false =>
              have hb2 := hb.2
              rw [hcc] at hb2
              exact ⟨⟨g1, hb2⟩, g2, fun e => by rw [← hc, hcc] at e; cases e⟩
      have skip : SkipM f → (∀ f', o.about P w a.eval = some f' → FF.fn f') ∧ wpAnyIn FF 0 P .any ops Q n (listed.setIfInBounds i true) (a.put o.dst undef) w := by
        rintro ⟨h1, h2, h3, h4⟩
        refine ⟨fun f _ => hW.fn f, next tc m _ w (by rw [h4]) htc ?_ (by rw [put_defers]; exact hD)⟩
        rw [h2, h3]
        exact (h.weakU fun b hb => ⟨(hU b hb.1).1, hb.2⟩).put hd RW_vS
      unfold wpOpIn
      simp only [ho]
      cases hg : o.guard with
      | none =>
        have hw : Region.wanted o (yielded ops a.tmps) = true := by simp [Region.wanted, hg]
        rw [if_pos hw]
        rw [hg] at hs
        exact run hs
      | some jw =>
        obtain ⟨j, want⟩ := jw
        rw [hg] at hs
        obtain ⟨d, d1, ⟨b, d2, d3⟩ | ⟨⟨arr, d2⟩, d3⟩⟩ := hs
        rotate_left
        · have hy := h.yielded_not d1 d2
          have hw : ¬ Region.wanted o (yielded ops a.tmps) = true := by simp [Region.wanted, hg, hy]
          rw [if_neg hw]
          exact skip d3
        have hy := h.yielded_b d1 d2
        by_cases hbw : b = want
        · have hw : Region.wanted o (yielded ops a.tmps) = true := by simp [Region.wanted, hg, hy, hbw]
          rw [if_pos hw]
          rw [if_pos hbw] at d3
          exact run d3
        · have hw : ¬ Region.wanted o (yielded ops a.tmps) = true := by simp [Region.wanted, hg, hy, hbw]
          rw [if_neg hw]
          rw [if_neg hbw] at d3
          exact skip d3

/-- A REGION WHOSE ORDER IS OPEN. -/
theorem xopsO_sound (hH : HOK P H) {FF : Fence} (hW : Wide FF) (hm : P.follows .mixedOrders = true) {sz : Nat} {ops : Array Oper} {nx : Nat} (hah : aheadB ops.toList = true) {O : Nat → Prop} {w0 : World} {M0 : MM} {N0 : Nat} {ds : List DW} {Q : Exit → Act → World → Prop} {id : Nat}
    {m : MM} {tm : TW} {st : SB} {a : Act} {w : World} (h : RelM O w0 M0 N0 (fun b => nx ≤ b) m sz tm st a w) (hD : RDs m ds a.defers) {tmE : TW} {stE : SB} {topE : Nat} (hx : xopsO P H sz ops nx ops.toList 0 (nx + ops.size) tm st [] = some (tmE, stE, topE))
    (hn : ∀ m' a' w', RelM O w0 M0 N0 (fun b => topE ≤ b) m' sz tmE stE a' w' → RDs m' ds a'.defers → Q .normal a' w') : (Code.region id ops true).wpIn FF 0 P Q a w := by
  obtain ⟨fs, q1, q2, ⟨q3, q3b, q3c, q3d, q3e⟩, q4, _⟩ := xopsO_tr hH ops.toList 0 _ tm st [] hx
  refine wpIn_region_any hm ?_
  refine anyOrderM hW ?_ q3e hn ops.size _ (enumL 0 ops.toList) fs (nx + ops.size) m tm st a _ (by rw [enumL_length]; simp) ?_ ?_ hD q2 (Nat.le_refl _) q3d q3c (fun _ => by rw [q3]) (fun _ => by rw [q3b])
  · intro i o ho e he hb
    have := List.all_eq_true.1 hah (i, o) (enumL_mem.2 ⟨by omega, by simpa using ho⟩)
    simp only [Array.all_eq_true_iff_forall_mem] at this
    have := this e he
    simpa [hb] using this
  · refine { len := by rw [enumL_length, q1], mem := ?_, all := ?_, asc := enumL_asc _ _, free := q4, size := by simp, closed := ?_ }
    rotate_left 2
    · intro j o' hj hl
      have hi : j < ops.size := (Array.getElem?_eq_some_iff.1 hj).1
      simp [Array.getD_eq_getD_getElem?, hi] at hl
    · intro i o hm
      obtain ⟨_, h2⟩ := enumL_mem.1 hm
      have h3 : ops[i]? = some o := by simpa using h2
      have hi : i < ops.size := (Array.getElem?_eq_some_iff.1 h3).1
      exact ⟨h3, by simp [Array.getD_eq_getD_getElem?, hi]⟩
    · intro i o ho _
      exact enumL_mem.2 ⟨by omega, by simpa using ho⟩
  · exact RelM.drew (h.weakU fun b hb => hb.1.1)
end
end
end Go.Ev.Mi
/- The mirror machine: code, functions, rounds of ranges over functions, deferred calls. -/
set_option linter.unusedVariables false
set_option linter.unusedSimpArgs false
namespace Go.Ev.Mi
open Go.RowKit
noncomputable section

structure MS where
  tm : TW
  ds : List DW
  st : SB
  nx : Nat

def tidyTW : Nat → TW → TW
  | 0, _ => []
  | n + 1, tm => match look tm n with
    | some v => kW v fun v => (n, v) :: tidyTW n tm
    | none => tidyTW n tm
/-- The boxes each once. -/
def tidySW : List Nat → SB → SB
  | _, [] => []
  | seen, (b, x) :: st => match memN seen b with
    | true => tidySW seen st
    | false => (b, x) :: tidySW (b :: seen) st
def tidyM (sz : Nat) (s : MS) : MS := ⟨tidyTW sz s.tm, s.ds, tidySW [] s.st, s.nx⟩

/-- A deferred call: function, arguments, boxes, first new number. -/
abbrev WD := FuncId → List W → SB → Nat → Option (SB × Nat)

def xdefF (HD : WD) (g : FuncId) (avs : List W) (st : SB) (top : Nat) : Option (SB × Nat) :=
  let sr := reach st (refsL avs)
  match HD g avs sr top with
  | some (s2, top') => match s2.all fun p => Nat.ble top p.1 || (look sr p.1).isSome with
    | true => some (s2 ++ (deads sr ++ st), top')
    | false => none
  | none => none

def xleaveM (HD : WD) : List DW → SB → Nat → Option (SB × Nat)
  | [], st, top => some (st, top)
  | .mark b :: ds, st, top => match look st b with
    | some (.mark true) => xleaveM HD ds ((b, .mark false) :: st) top
    | _ => none
  | .call g args caps :: ds, st, top => match xdefF HD g (args ++ caps) st top with
    | some (st', top') => xleaveM HD ds st' top'
    | none => none

def xloopM (f : MS → Option (AX × MS)) (sz : Nat) : Nat → MS → Option (AX × MS)
  | 0, _ => none
  | n + 1, s => match f (tidyM sz s) with
    | some (.normal, s') => xloopM f sz n s'
    | some (.exit i, s') => some (.exit i, s')
    | some (.ret, s') => some (.ret, s')
    | none => none

def xenterM (rd : Option Nat) (r : B) (s : MS) : Option MS := match rd with
  | none => some ⟨s.tm, .mark (s.nx + 1) :: s.ds, (s.nx, r) :: (s.nx + 1, .mark true) :: s.st, s.nx + 2⟩
  | some b => match look s.st b with
    | some (.loop _) => some ⟨s.tm, s.ds, (s.nx, r) :: s.st, s.nx + 1⟩
    | _ => none

def isOut (rd : Option Nat) : Bool := match rd with
  | none => true
  | some _ => false

section
variable (P : Program) (H : WH) (HD : WD)

def xcodeM (fuel sz : Nat) (rd : Option Nat) : Code → MS → Option (AX × MS)
  | .skip, s => some (.normal, s)
  | .region _ ops false, s => match xopsW P H (isOut rd) sz ops.toList ops.toList s.nx s.tm s.st s.ds with
    | some (tm, st, nx, ds) => some (.normal, ⟨tm, ds, st, nx⟩)
    | none => none
  | .region _ ops true, s => match aheadB ops.toList with
    | false => none
    | true => kN (s.nx + ops.size) fun t => match xopsO P H sz ops s.nx ops.toList 0 t s.tm s.st [] with
      | some (tm, st, nx) => some (.normal, ⟨tm, s.ds, st, nx⟩)
      | none => none
  | .seq a b, s => match xcodeM fuel sz rd a s with
    | some (.normal, s') => xcodeM fuel sz rd b s'
    | some (.exit i, s') => some (.exit i, s')
    | some (.ret, s') => some (.ret, s')
    | none => none
  | .cond c x y, s => match evW s.tm c with
    | .v (.bool true) => xcodeM fuel sz rd x s
    | .v (.bool false) => xcodeM fuel sz rd y s
    | _ => none
  | .block i c, s => match xcodeM fuel sz rd c s with
    | some (.exit j, s') => match Nat.beq j i with
      | true => some (.normal, s')
      | false => some (.exit j, s')
    | some (.normal, s') => some (.normal, s')
    | some (.ret, s') => some (.ret, s')
    | none => none
  | .loop c, s => xloopM (fun s => xcodeM fuel sz rd c s) sz fuel s
  | .exit i, s => some (.exit i, s)
  | .ret, s => some (.ret, s)
  | .rangeFunc f ps assign body, s =>
    match xenterM rd (.loop ⟨s.tm, sz, ps, assign, body, .ready, none⟩) s with
    | none => none
    | some s1 => match evW s.tm f with
      | .fn g caps => match xcallF H (.fn g caps) [.yld s.nx] s1.st s1.nx with
        | some (_, us, _, nx2) => match look (us ++ s1.st) s.nx with
          | some (.loop r2) => match isBusy r2.state with
            | true => none
            | false => match r2.pending with
              | none => some (.normal, ⟨s.tm, s1.ds, (s.nx, .loop { r2 with state := .exhausted }) :: (us ++ s1.st), nx2⟩)
              | some (.exit i) => some (.exit i, ⟨s.tm, s1.ds, (s.nx, .loop { r2 with state := .exhausted }) :: (us ++ s1.st), nx2⟩)
              | some .ret => some (.ret, ⟨s.tm, s1.ds, (s.nx, .loop { r2 with state := .exhausted }) :: (us ++ s1.st), nx2⟩)
              | _ => none
          | _ => none
        | none => none
      | _ => none
  | _, _ => none

def resOneM (tm : TW) (st : SB) : ResultVar → Option W
  | .tmp t => some ((look tm t).getD .top)
  | .cell a t => match (look tm a).getD .top with
    | .ptr b off => match look st b with
      | some (.cells cs _ _) => match (takeW P t cs off).x [] [] [] with
        | some (v, _) => some v
        | none => none
      | _ => none
    | _ => none
def resAllM (tm : TW) (st : SB) : List ResultVar → Option (List W)
  | [] => some []
  | r :: l => match resOneM P tm st r, resAllM tm st l with
    | some v, some vs => some (v :: vs)
    | _, _ => none
def packM : List W → W
  | [v] => v
  | vs => .tup vs

def startW (args : List W) : TW := (List.range args.length).zip args

def ends (e : AX) : Bool := match e with
  | .exit _ => false
  | _ => true

/-- Boxes that nothing leads to any more are given up, but for those that were handed in. -/
def sweepM (st0 : SB) (r : W) (st : SB) : SB := pickS st (cloW st 100000 (refsW r ++ st0.map (·.1)) [])

/-- A function is entered. -/
def xfnM (fuel : Nat) (fn : Func) (c : Code) (args : List W) (st : SB) (top : Nat) : Option (W × SB × Nat) :=
  match Nat.ble args.length fn.ntmps with
  | false => none
  | true => match xcodeM P H fuel fn.ntmps none c ⟨startW args, [], st, top⟩ with
    | none => none
    | some (e, s) => match ends e with
      | false => none
      | true => match xleaveM HD s.ds s.st s.nx with
        | none => none
        | some (st1, nx1) => match resAllM P s.tm st1 fn.results.toList with
          | none => none
          | some vs => kW (packM vs) fun r => kSB (sweepM st r st1) fun st2 => some (r, st2, nx1)

/-- A deferred function is entered. -/
def xdefM (fuel : Nat) (fn : Func) (c : Code) (args : List W) (st : SB) (top : Nat) : Option (SB × Nat) :=
  match Nat.ble args.length fn.ntmps with
  | false => none
  | true => match xcodeM P H fuel fn.ntmps none c ⟨startW args, [], st, top⟩ with
    | none => none
    | some (e, s) => match ends e, s.ds with
      | true, [] => match resAllM P s.tm s.st fn.results.toList with
        | none => none
        | some _ => kSB (sweepM st .top s.st) fun st2 => some (st2, s.nx)
      | _, _ => none

/-- A round of a range over a function. -/
def xroundM (fuel : Nat) (b : Nat) (args : List W) (st : SB) (top : Nat) : Option (W × SB × Nat) := match look st b with
  | some (.loop r) => match isReady r.state with
    | true => match Nat.beq args.length r.ps.size && r.ps.toList.all fun p => Nat.ble (p + 1) r.sz with
      | false => none
      | true => match xcodeM P H fuel r.sz (some b) r.assign ⟨(r.ps.toList.zip args).foldl (fun t p => p :: t) r.tm, [], st, top⟩ with
        | some (.normal, s1) => match look s1.st b with
          | some (.loop r1) => match isReady r1.state with
            | true => match xcodeM P H fuel r.sz (some b) r.body ⟨s1.tm, s1.ds, (b, .loop { r1 with state := .busy }) :: s1.st, s1.nx⟩ with
              | none => none
              | some (e, s2) => match look s2.st b with
                | some (.loop r2) => match e with
                  | .normal => kSB (sweepM st .top ((b, .loop { r2 with state := .ready, pending := none }) :: s2.st)) fun st2 => some (.v (.bool true), st2, s2.nx)
                  | .exit i => kSB (sweepM st .top ((b, .loop { r2 with state := .done, pending := some (.exit i) }) :: s2.st)) fun st2 => some (.v (.bool false), st2, s2.nx)
                  | .ret => kSB (sweepM st .top ((b, .loop { r2 with state := .done, pending := some .ret }) :: s2.st)) fun st2 => some (.v (.bool false), st2, s2.nx)
                | _ => none
            | false => none
          | _ => none
        | _ => none
    | false => none
  | _ => none
end

/-! ### They are the model's. -/

theorem look_tidyTW : ∀ (n : Nat) {tm : TW} {i : Nat} {v : W}, look (tidyTW n tm) i = some v → look tm i = some v
  | 0, _, _, _, h => by cases h
  | n + 1, tm, i, v, h => by
    simp only [tidyTW] at h
    split at h
    · next u hu =>
      rw [kW_eq, look_cons] at h
      split at h
      · next e => subst e; cases h; exact hu
      · exact look_tidyTW n h
    · exact look_tidyTW n h

theorem look_tidySW : ∀ (st : SB) (seen : List Nat) (j : Nat), memN seen j = false → look (tidySW seen st) j = look st j
  | [], _, _, _ => rfl
  | (b, x) :: st, seen, j, h => by
    simp only [tidySW]
    split
    · next hb =>
      rw [look_cons, if_neg (by rintro rfl; rw [hb] at h; cases h)]
      exact look_tidySW st seen j h
    · next hb =>
      rw [look_cons, look_cons]
      split
      · rfl
      · next hne => exact look_tidySW st (b :: seen) j (by rw [memN_cons, beq_ne hne, h]; rfl)

section
variable {O : Nat → Prop} {w0 : World} {M0 : MM} {N0 : Nat} {U : Nat → Prop} {m : MM} {sz : Nat} {tm : TW} {st : SB} {a : Act} {w : World}
theorem RelM.tidy (h : RelM O w0 M0 N0 U m sz tm st a w) (n : Nat) : RelM O w0 M0 N0 U m sz (tidyTW n tm) (tidySW [] st) a w := by
  refine (h.congr (st' := tidySW [] st) fun j => look_tidySW st [] j rfl).act (fun i => ?_) h.hsz
  cases hl : look (tidyTW n tm) i with
  | none => exact trivial
  | some v =>
    have := h.htm i
    rw [look_tidyTW n hl] at this
    exact this

theorem RelM.sweep (h : RelM O w0 M0 N0 U m sz tm st a w) (st0 : SB) (r : W) : RelM O w0 M0 N0 U m sz tm (sweepM st0 r st) a w := h.fewer fun b x hx => look_pick _ _ b x hx
end

section
variable {P : Program} {H : WH} {HD : WD}

def FnDOK (P : Program) (g : FuncId) (args : List W) (st : SB) (top : Nat) (st' : SB) (top' : Nat) : Prop :=
  ∀ (O : Nat → Prop) (m : MM) (w : World) (vs : List Value), RelH O w m top top m st w → RWs m false args vs → CallsDIn Fence.wide 0 P g vs.toArray .returning w fun e u' w' => u' = .returning ∧ After O w m top st' top' .top e w'
def HDOK (P : Program) (HD : WD) : Prop := ∀ g avs st top st' top', HD g avs st top = some (st', top') → top ≤ top' ∧ EntersOK P g ∧ FnDOK P g avs st top st' top'

theorem xcallF_spec {c : W} {avs : List W} {st : SB} {top : Nat} {v : W} {us : SB} {rs : List Nat} {top' : Nat} (h : xcallF H c avs st top = some (v, us, rs, top')) :
    ∃ sr s2, us = s2 ++ deads sr ∧ (∀ b x, look sr b = some x → look st b = some x) ∧ (∀ b x, look s2 b = some x → top ≤ b ∨ ∃ y, look sr b = some y) ∧ H c avs sr top = some (v, s2, top') := by
  unfold xcallF at h
  simp only at h
  split at h
  · next r s2 top1 hcall =>
    split at h
    · next hall =>
      cases h
      refine ⟨_, s2, rfl, fun b x hb => look_pick _ _ _ _ hb, fun b x hb => ?_, hcall⟩
      have := List.all_eq_true.1 hall (b, x) (look_mem hb)
      simp only [Bool.or_eq_true] at this
      rcases this with h1 | h1
      · exact .inl (Nat.le_of_ble_eq_true h1)
      · exact .inr (Option.isSome_iff_exists.1 h1)
    · cases h
  · cases h

theorem xdefF_spec {g : FuncId} {avs : List W} {st : SB} {top : Nat} {st' : SB} {top' : Nat} (h : xdefF HD g avs st top = some (st', top')) :
    ∃ sr s2, st' = s2 ++ (deads sr ++ st) ∧ (∀ b x, look sr b = some x → look st b = some x) ∧ (∀ b x, look s2 b = some x → top ≤ b ∨ ∃ y, look sr b = some y) ∧ HD g avs sr top = some (s2, top') := by
  unfold xdefF at h
  simp only at h
  split at h
  · next s2 top1 hcall =>
    split at h
    · next hall =>
      cases h
      refine ⟨_, s2, rfl, fun b x hb => look_pick _ _ _ _ hb, fun b x hb => ?_, hcall⟩
      have := List.all_eq_true.1 hall (b, x) (look_mem hb)
      simp only [Bool.or_eq_true] at this
      rcases this with h1 | h1
      · exact .inl (Nat.le_of_ble_eq_true h1)
      · exact .inr (Option.isSome_iff_exists.1 h1)
    · cases h
  · cases h

theorem xloopM_sound {f : MS → Option (AX × MS)} {FF : Fence} {O : Nat → Prop} {w0 : World} {M0 : MM} {N0 : Nat} {sz : Nat} {c : Code} {e : AX} {s' : MS} {QQ : Exit → Act → World → Prop}
    (hq : ∀ a' w' m', RelM O w0 M0 N0 (fun b => s'.nx ≤ b) m' sz s'.tm s'.st a' w' → RDs m' s'.ds a'.defers → QQ (exOf e) a' w')
    (hf : ∀ (s : MS) (e1 : AX) (s1 : MS), f s = some (e1, s1) → ∀ (QQ : Exit → Act → World → Prop) (m : MM) (a : Act) (w : World), RelM O w0 M0 N0 (fun b => s.nx ≤ b) m sz s.tm s.st a w → RDs m s.ds a.defers →
      (∀ a' w' m', RelM O w0 M0 N0 (fun b => s1.nx ≤ b) m' sz s1.tm s1.st a' w' → RDs m' s1.ds a'.defers → QQ (exOf e1) a' w') → c.wpIn FF 0 P QQ a w)
    {n : Nat} {s : MS} (h : xloopM f sz n s = some (e, s')) {m : MM} {a : Act} {w : World} (hR : RelM O w0 M0 N0 (fun b => s.nx ≤ b) m sz s.tm s.st a w) (hM : RDs m s.ds a.defers) : (Code.loop c).wpIn FF 0 P QQ a w := by
  refine wpIn_loop_ghost (fun k a w => ∃ s m, xloopM f sz k s = some (e, s') ∧ RelM O w0 M0 N0 (fun b => s.nx ≤ b) m sz s.tm s.st a w ∧ RDs m s.ds a.defers) n ⟨s, m, h, hR, hM⟩ ?_
  rintro k a w ⟨s, m, h, hR, hM⟩
  cases k with
  | zero => cases h
  | succ k =>
    simp only [xloopM] at h
    have hR' : RelM O w0 M0 N0 (fun b => (tidyM sz s).nx ≤ b) m sz (tidyM sz s).tm (tidyM sz s).st a w := hR.tidy sz
    split at h
    · next s1 h1 => exact hf _ _ _ h1 _ m a w hR' hM fun a' w' m' r1 r2 => ⟨k, Nat.lt_succ_self k, s1, m', h, r1, r2⟩
    · next i s1 h1 => cases h; exact hf _ _ _ h1 _ m a w hR' hM fun a' w' m' r1 r2 => hq a' w' m' r1 r2
    · next s1 h1 => cases h; exact hf _ _ _ h1 _ m a w hR' hM fun a' w' m' r1 r2 => hq a' w' m' r1 r2
    · cases h

/-- Behind the call of a range. -/
theorem range_endM {FF : Fence} {O : Nat → Prop} {w0 w2 : World} {M0 : MM} {N0 : Nat} {sz : Nat} {tm : TW} {a a' : Act} {m3 : MM} {st2 : SB} {nx2 : Nat} {b l c : Nat} {r2 : LoopM} {ds : List DW}
    {e : AX} {j : Option Code} {QQ : Exit → Act → World → Prop}
    (h2 : RelM O w0 M0 N0 (fun b => nx2 ≤ b) m3 sz tm st2 a w2) (ha : a'.tmps = a.tmps) (hb : m3 b = some (l, c)) (hl : look st2 b = some (.loop r2)) (hbusy : isBusy r2.state = false) (hM : RDs m3 ds a'.defers)
    (hj : r2.pending = j) (hje : (e = .normal ∧ j = none) ∨ (∃ i, e = .exit i ∧ j = some (.exit i)) ∨ (e = .ret ∧ j = some .ret))
    (hq : ∀ w3, RelM O w0 M0 N0 (fun b => nx2 ≤ b) m3 sz tm ((b, .loop { r2 with state := .exhausted }) :: st2) a' w3 → QQ (exOf e) a' w3) {v : Value} :
    rangePost FF 0 P l QQ a' (.returned v) w2 := by
  obtain ⟨g', c', lp, q1, q2, q3, q5, q6, q7, q8, q9, q10, q11⟩ := h2.hst b _ hl
  rw [hb] at q1; cases q1
  have hnb : lp.state ≠ .busy := by
    intro e
    rw [q5] at e
    rw [e] at hbusy
    cases hbusy
  have h3 := h2.putObj (x1 := .loop { r2 with state := .exhausted }) hl (by simp) hb q2 (o := .loop { lp with state := .exhausted }) (by
    intro hnew
    exact ⟨_, _, _, hb, q2, hnew, rfl, q6, q7, q8, q9, q10, q11⟩)
  have h4 : RelM O w0 M0 N0 (fun b => nx2 ≤ b) m3 sz tm ((b, .loop { r2 with state := .exhausted }) :: st2) a' (w2.putObj l (.loop { lp with state := .exhausted })) :=
    h3.act (fun i => by rw [ha]; exact h3.htm i) (by rw [ha]; exact h3.hsz)
  refine ⟨lp.pending, _, run_endLoop q3 hnb, ?_⟩
  have hfin := hq _ h4
  have hp : lp.pending = j := q6.trans hj
  generalize (w2.putObj l (.loop { lp with state := .exhausted })) = w3 at hfin ⊢
  rw [hp]
  rcases hje with ⟨rfl, rfl⟩ | ⟨i, rfl, rfl⟩ | ⟨rfl, rfl⟩
  · exact hfin
  · exact wpIn_exit hfin
  · exact wpIn_ret hfin

theorem xcodeM_sound (hH : HOK P H) (hmix : P.follows .mixedOrders = true) {FF : Fence} (hW : Wide FF) {fuel sz : Nat} {rd : Option Nat} : ∀ (c : Code) (s : MS) (e : AX) (s' : MS), xcodeM P H fuel sz rd c s = some (e, s') →
    ∀ (O : Nat → Prop) (QQ : Exit → Act → World → Prop) (w0 : World) (M0 m : MM) (N0 : Nat) (a : Act) (w : World), RelM O w0 M0 N0 (fun b => s.nx ≤ b) m sz s.tm s.st a w → RDs m s.ds a.defers → RdOK m FF rd →
      (∀ a' w' m', RelM O w0 M0 N0 (fun b => s'.nx ≤ b) m' sz s'.tm s'.st a' w' → (∀ b y, m b = some y → m' b = some y) → RDs m' s'.ds a'.defers → QQ (exOf e) a' w') → c.wpIn FF 0 P QQ a w
  | .skip, s, e, s', hx, O, QQ, w0, M0, m, N0, a, w, h, hM, hrd, hq => by cases hx; exact wpIn_skip (hq a w m h (fun _ _ e => e) hM)
  | .exit i, s, e, s', hx, O, QQ, w0, M0, m, N0, a, w, h, hM, hrd, hq => by cases hx; exact wpIn_exit (hq a w m h (fun _ _ e => e) hM)
  | .ret, s, e, s', hx, O, QQ, w0, M0, m, N0, a, w, h, hM, hrd, hq => by cases hx; exact wpIn_ret (hq a w m h (fun _ _ e => e) hM)
  | .region id ops false, s, e, s', hx, O, QQ, w0, M0, m, N0, a, w, h, hM, hrd, hq => by
    simp only [xcodeM] at hx
    split at hx
    · next tm1 st1 nx1 ds1 h1 =>
      cases hx
      refine wpIn_region ?_
      have hN : N0 ≤ s.nx := h.un s.nx (Nat.le_refl _)
      have := xopsW_sound hH hW (O := O) (w0 := w) (M0 := m) (N0 := s.nx) (free := isOut rd) (fun e => by cases rd with | none => exact hrd | some b => cases e) (ops := ops) (Q := QQ)
        (fun m' a' w' hR hD => hq a' w' m' (h.comp hN hR) hR.pin hD) ops.toList 0 s.nx m s.tm s.st s.ds a w rfl (h.base fun b hb => hb) hM h1
      simpa using this
    · cases hx
  | .region id ops true, s, e, s', hx, O, QQ, w0, M0, m, N0, a, w, h, hM, hrd, hq => by
    simp only [xcodeM] at hx
    split at hx
    · cases hx
    · next hah =>
      rw [kN_eq] at hx
      split at hx
      · next tm1 st1 nx1 h1 =>
        cases hx
        have hN : N0 ≤ s.nx := h.un s.nx (Nat.le_refl _)
        exact xopsO_sound hH hW hmix hah (w0 := w) (M0 := m) (N0 := s.nx) (h.base fun b hb => hb) hM h1 fun m' a' w' hR hD => hq a' w' m' (h.comp hN hR) hR.pin hD
      · cases hx
  | .seq x y, s, e, s', hx, O, QQ, w0, M0, m, N0, a, w, h, hM, hrd, hq => by
    simp only [xcodeM] at hx
    refine wpIn_seq ?_
    split at hx
    · next s1 h1 =>
      refine xcodeM_sound hH hmix hW x s _ s1 h1 O _ w0 M0 m N0 a w h hM hrd fun a1 w1 m1 r1 r2 r3 => ?_
      exact xcodeM_sound hH hmix hW y s1 e s' hx O QQ w0 M0 m1 N0 a1 w1 r1 r3 (hrd.mono r2) fun a2 w2 m2 q1 q2 q3 => hq a2 w2 m2 q1 (fun b y e => q2 b y (r2 b y e)) q3
    · next i s1 h1 => cases hx; exact xcodeM_sound hH hmix hW x s _ _ h1 O _ w0 M0 m N0 a w h hM hrd fun a1 w1 m1 r1 r2 r3 => hq a1 w1 m1 r1 r2 r3
    · next s1 h1 => cases hx; exact xcodeM_sound hH hmix hW x s _ _ h1 O _ w0 M0 m N0 a w h hM hrd fun a1 w1 m1 r1 r2 r3 => hq a1 w1 m1 r1 r2 r3
    · cases hx
  | .cond c x y, s, e, s', hx, O, QQ, w0, M0, m, N0, a, w, h, hM, hrd, hq => by
    simp only [xcodeM] at hx
    have he := h.ev c
    split at hx
    · next hb =>
      rw [hb] at he
      exact wpIn_cond (t := true) he (xcodeM_sound hH hmix hW x s e s' hx O QQ w0 M0 m N0 a w h hM hrd hq)
    · next hb =>
      rw [hb] at he
      exact wpIn_cond (t := false) he (xcodeM_sound hH hmix hW y s e s' hx O QQ w0 M0 m N0 a w h hM hrd hq)
    · cases hx
  | .block i c, s, e, s', hx, O, QQ, w0, M0, m, N0, a, w, h, hM, hrd, hq => by
    simp only [xcodeM] at hx
    refine wpIn_block ?_
    split at hx
    · next j s1 h1 =>
      split at hx
      · next hj =>
        cases hx
        have := Nat.eq_of_beq_eq_true hj
        subst this
        refine xcodeM_sound hH hmix hW c s _ _ h1 O _ w0 M0 m N0 a w h hM hrd fun a1 w1 m1 r1 r2 r3 => ?_
        show Exit.inBlock j QQ (.exit j) a1 w1
        simp only [Exit.inBlock, if_true]
        exact hq a1 w1 m1 r1 r2 r3
      · next hj =>
        cases hx
        have hne : ¬ j = i := by rintro rfl; simp at hj
        refine xcodeM_sound hH hmix hW c s _ _ h1 O _ w0 M0 m N0 a w h hM hrd fun a1 w1 m1 r1 r2 r3 => ?_
        show Exit.inBlock i QQ (.exit j) a1 w1
        simp only [Exit.inBlock, if_neg hne]
        exact hq a1 w1 m1 r1 r2 r3
    · next s1 h1 => cases hx; exact xcodeM_sound hH hmix hW c s _ _ h1 O _ w0 M0 m N0 a w h hM hrd fun a1 w1 m1 r1 r2 r3 => hq a1 w1 m1 r1 r2 r3
    · next s1 h1 => cases hx; exact xcodeM_sound hH hmix hW c s _ _ h1 O _ w0 M0 m N0 a w h hM hrd fun a1 w1 m1 r1 r2 r3 => hq a1 w1 m1 r1 r2 r3
    · cases hx
  | .loop c, s, e, s', hx, O, QQ, w0, M0, m, N0, a, w, h, hM, hrd, hq => by
    simp only [xcodeM] at hx
    have hN : N0 ≤ s.nx := h.un s.nx (Nat.le_refl _)
    refine xloopM_sound (w0 := w) (M0 := m) (N0 := s.nx) (fun a' w' m' r1 r2 => hq a' w' m' (h.comp hN r1) r1.pin r2) ?_ hx (h.base fun b hb => hb) hM
    intro s1 e1 s2 h1 QQ1 m1 a1 w1 hR1 hM1 hq1
    exact xcodeM_sound hH hmix hW c s1 e1 s2 h1 O QQ1 w m m1 s.nx a1 w1 hR1 hM1 (hrd.mono hR1.pin) fun a' w' m' r1 r2 r3 => hq1 a' w' m' r1 r3
  | .rangeFunc f ps assign body, s, e, s', hx, O, QQ, w0, M0, m, N0, a, w, h, hM, hrd, hq => by
    simp only [xcodeM] at hx
    split at hx
    · cases hx
    · next s1 hs1 =>
      have hf := h.ev f
      split at hx
      · next g caps hg =>
        rw [hg] at hf
        obtain ⟨arr, hf', hv⟩ := hf
        split at hx
        · next rr us rs nx2 hcall =>
          obtain ⟨sr, s2, hus, hsr, hs2, hcall⟩ := xcallF_spec hcall
          obtain ⟨htt, henter, hok⟩ := hH _ _ _ _ _ _ _ hcall
          have hus2 : us ++ s1.st = s2 ++ (deads sr ++ s1.st) := by rw [hus, List.append_assoc]
          split at hx
          · next r2 hr2 =>
            split at hx
            · cases hx
            · next hbusy =>
              have hje : ∃ j, r2.pending = j ∧ ((e = .normal ∧ j = none) ∨ (∃ i, e = .exit i ∧ j = some (.exit i)) ∨ (e = .ret ∧ j = some .ret)) ∧ s' = ⟨s.tm, s1.ds, (s.nx, .loop { r2 with state := .exhausted }) :: (us ++ s1.st), nx2⟩ := by
                split at hx
                · next hp => cases hx; exact ⟨_, hp, .inl ⟨rfl, rfl⟩, rfl⟩
                · next i hp => cases hx; exact ⟨_, hp, .inr (.inl ⟨i, rfl, rfl⟩), rfl⟩
                · next hp => cases hx; exact ⟨_, hp, .inr (.inr ⟨rfl, rfl⟩), rfl⟩
                · cases hx
              obtain ⟨j, hj, hje, rfl⟩ := hje
              rw [hus2] at hr2 hq
              refine wpIn_rangeFunc fun fn _ => ?_
              have hres : ∀ (l : Nat) (w1 : World), (resolve a.eval (rangeCall f l) 0).run P w1 = .ok { target := .fn (.func g) arr, args := #[.func (.yield l) #[] #[]] } w1 := by
                intro l w1
                have e : (rangeCall f l).args.map a.eval = #[.func (.yield l) #[] #[]] := by simp [rangeCall, Act.eval]
                show (Deferred.ofValue (a.eval f) ((rangeCall f l).args.map a.eval)).run P w1 = _
                rw [hf', e]
                rfl
              have hinv : ∀ (l : Nat) (w1 : World), (invoke (.fn (.func g) arr) #[.func (.yield l) #[] #[]]).run P w1 = .ok (.enter g (.func (.yield l) #[] #[] :: arr.toList).toArray) w1 := by
                intro l w1
                simp only [invoke]
                have e : (#[.func (.yield l) #[] #[]] ++ arr : Array Value) = (.func (.yield l) #[] #[] :: arr.toList).toArray := by
                  apply Array.ext'
                  simp
                rw [e, henter]
              have hargs : ∀ (m1 : MM) (l c : Nat), m1 s.nx = some (l, c) → (∀ b y, m b = some y → m1 b = some y) → RWs m1 false ([.yld s.nx] ++ caps) (.func (.yield l) #[] #[] :: arr.toList) := by
                intro m1 l c hb hmm
                exact ⟨⟨⟨l, c, hb, rfl⟩, fun e => by cases e⟩, RWs.mono hmm _ _ hv⟩
              have hN : N0 ≤ s.nx := h.un s.nx (Nat.le_refl _)
              cases rd with
              | none =>
                have hro : FF.round = none := hrd
                cases hs1
                obtain ⟨hA, hmA⟩ := h.new (id := s.nx + 1) 0 (by show s.nx ≤ s.nx + 1; omega) (o := .deferred (some [])) (x := .mark true) (by simp) (by
                  intro m' hm' hid hh
                  exact ⟨_, _, hid, h.own_new, hh⟩)
                obtain ⟨hB, hmB⟩ := hA.new (id := s.nx) 0 (by constructor <;> first | omega | (show s.nx ≤ s.nx; omega)) (o := .loop { state := .ready, pending := none, fn, tmps := a.tmps, params := ps, assign, body, defers := w.heap.size })
                  (x := .loop ⟨s.tm, sz, ps, assign, body, .ready, none⟩) (by simp) (by
                  intro m' hm' hid hh
                  exact ⟨_, _, _, hid, hA.own_new, hh, rfl, rfl, rfl, rfl, rfl, h.hsz, fun i => RW.mono hm' _ _ (hA.htm i)⟩)
                have hsize : (w.alloc (.deferred (some []))).heap.size = w.heap.size + 1 := by simp
                have hBU := hB.weakU (U' := fun b => s.nx + 2 ≤ b) fun b hb => ⟨⟨show s.nx ≤ b by omega, by omega⟩, by omega⟩
                refine ⟨w.heap.size + 1, [{ target := .collected w.heap.size, args := #[] }], _, _, _, g, _, _, by rw [hro]; exact run_enterLoop_outer fn a.tmps ps assign body, hres _ _, fun f' _ => hW.fn f', hinv _ _, fun e => (by rw [hW.dep] at e; cases e), callsIn_of_calls hW ?_⟩
                refine (hok _ _ _ _ (hBU.frame_in (fun _ e => e) hsr) (hargs _ (w.heap.size + 1) 0 (by simp [hsize]) (fun b y e => hmB b y (hmA b y e)))).mono ?_
                rintro en w2 ⟨v, m3, rfl, hk, _⟩
                have h2 := (hBU.frame_out (fun _ e => e) htt hsr hs2 hk).weakU (U' := fun b => nx2 ≤ b) fun b hb => ⟨Nat.le_trans htt hb, fun _ => hb⟩
                have hm3 : m3 s.nx = some (w.heap.size + 1, 0) := hk.pin _ _ (by simp [hsize])
                have hpin : ∀ b y, m b = some y → m3 b = some y := fun b y e => hk.pin _ _ (hmB b y (hmA b y e))
                refine range_endM (a' := { a with defers := [{ target := .collected w.heap.size, args := #[] }] ++ a.defers }) (ds := .mark (s.nx + 1) :: s.ds) h2 rfl hm3 hr2 hbusy ?_ hj hje fun w3 r1 => ?_
                · exact ⟨⟨w.heap.size, 0, hk.pin _ _ (hmB _ _ (by simp)), rfl⟩, hM.mono hpin⟩
                · exact hq _ w3 m3 r1 hpin ⟨⟨w.heap.size, 0, hk.pin _ _ (hmB _ _ (by simp)), rfl⟩, hM.mono hpin⟩
              | some b =>
                obtain ⟨l0, c0, hro, hb0⟩ := hrd
                simp only [xenterM] at hs1
                split at hs1
                · next r0 hr0 =>
                  cases hs1
                  obtain ⟨g0, c0', lp0, z1, z2, z3, _⟩ := h.hst b _ hr0
                  rw [hb0] at z1; cases z1
                  obtain ⟨hB, hmB⟩ := h.new (id := s.nx) 0 (by show s.nx ≤ s.nx; omega) (o := .loop { state := .ready, pending := none, fn, tmps := a.tmps, params := ps, assign, body, defers := lp0.defers })
                    (x := .loop ⟨s.tm, sz, ps, assign, body, .ready, none⟩) (by simp) (by
                    intro m' hm' hid hh
                    exact ⟨_, _, _, hid, h.own_new, hh, rfl, rfl, rfl, rfl, rfl, h.hsz, fun i => RW.mono hm' _ _ (h.htm i)⟩)
                  have hBU := hB.weakU (U' := fun b => s.nx + 1 ≤ b) fun b hb => ⟨show s.nx ≤ b by omega, by omega⟩
                  refine ⟨w.heap.size, [], _, _, _, g, _, _, by rw [hro]; exact run_enterLoop_inner z3 fn a.tmps ps assign body, hres _ _, fun f' _ => hW.fn f', hinv _ _, fun e => (by rw [hW.dep] at e; cases e), callsIn_of_calls hW ?_⟩
                  refine (hok _ _ _ _ (hBU.frame_in (fun _ e => e) hsr) (hargs _ w.heap.size 0 (by simp) hmB)).mono ?_
                  rintro en w2 ⟨v, m3, rfl, hk, _⟩
                  have h2 := (hBU.frame_out (fun _ e => e) htt hsr hs2 hk).weakU (U' := fun b => nx2 ≤ b) fun b hb => ⟨Nat.le_trans htt hb, fun _ => hb⟩
                  have hm3 : m3 s.nx = some (w.heap.size, 0) := hk.pin _ _ (by simp)
                  have hpin : ∀ b y, m b = some y → m3 b = some y := fun b y e => hk.pin _ _ (hmB b y e)
                  refine range_endM (a' := { a with defers := [] ++ a.defers }) (ds := s.ds) h2 rfl hm3 hr2 hbusy (hM.mono hpin) hj hje fun w3 r1 => ?_
                  exact hq _ w3 m3 r1 hpin (hM.mono hpin)
                · cases hs1
          · cases hx
        · cases hx
      · cases hx
  | .scope _, _, _, _, hx, _, _, _, _, _, _, _, _, _, _, _, _ => by cases hx
  | .label _, _, _, _, hx, _, _, _, _, _, _, _, _, _, _, _, _ => by cases hx
  | .goto _, _, _, _, hx, _, _, _, _, _, _, _, _, _, _, _, _ => by cases hx
  | .refuse _, _, _, _, hx, _, _, _, _, _, _, _, _, _, _, _, _ => by cases hx
end
end
end Go.Ev.Mi
/- The mirror machine: functions, rounds; a call without arguments, run. -/
set_option linter.unusedVariables false
set_option linter.unusedSimpArgs false
namespace Go.Ev.Mi
open Go.RowKit
noncomputable section

section
variable {P : Program} {H : WH} {HD : WD}

theorem xleaveM_ok (hHD : HDOK P HD) {fn : Func} {tmps : Array Value} {R : Ending → World → Prop} {O : Nat → Prop} {w0 : World} {M0 : MM} {N0 : Nat} {sz : Nat} {tm : TW} {a : Act} {st1 : SB} {nx1 : Nat} :
    ∀ (ds : List DW) (D : List Deferred) (st : SB) (nx : Nat) (m : MM) (w : World), xleaveM HD ds st nx = some (st1, nx1) → RelM O w0 M0 N0 (fun b => nx ≤ b) m sz tm st a w → RDs m ds D →
      (∀ m1 w1, RelM O w0 M0 N0 (fun b => nx1 ≤ b) m1 sz tm st1 a w1 → ∃ v, (results fn tmps).run P w1 = .ok v w1 ∧ R (.returned v) w1) → LeavesInM Fence.wide 0 P fn tmps R D .returning w
  | [], [], st, nx, m, w, hx, h, _, hq => by cases hx; exact hq m w h
  | [], _ :: _, _, _, _, _, _, _, hM, _ => hM.elim
  | _ :: _, [], _, _, _, _, _, _, hM, _ => hM.elim
  | .mark b :: ds, d :: D, st, nx, m, w, hx, h, ⟨⟨g, c, hb, hd⟩, hM⟩, hq => by
    simp only [xleaveM] at hx
    split at hx
    · next hl =>
      obtain ⟨g', c', q1, q2, q3⟩ := h.hst b _ hl
      rw [hb] at q1; cases q1
      have h2 := h.putObj (x1 := .mark false) hl (by simp) hb q2 (o := .deferred none) (fun hnew => ⟨_, _, hb, q2, hnew⟩)
      refine ⟨by simp, .inl ⟨g, _, by rw [hd], run_takeDeferred q3, xleaveM_ok hHD ds D _ nx m _ hx h2 hM hq⟩⟩
    · cases hx
  | .call g args caps :: ds, d :: D, st, nx, m, w, hx, h, ⟨⟨vs, cs, hd, hva, hvc⟩, hM⟩, hq => by
    simp only [xleaveM] at hx
    split at hx
    · next st' nx' hcall =>
      obtain ⟨sr, s2, hst', hsr, hs2, hcall⟩ := xdefF_spec hcall
      obtain ⟨htt, henter, hok⟩ := hHD _ _ _ _ _ _ hcall
      subst hst' hd
      have hinv : (invoke (.fn (.func g) cs.toArray) vs.toArray).run P w = .ok (.enter g (vs ++ cs).toArray) w := by
        simp only [invoke]
        have e : (vs.toArray ++ cs.toArray : Array Value) = (vs ++ cs).toArray := by simp
        rw [e, henter]
      refine ⟨by simp, .inr ⟨fun e => (by cases e), .func g, cs.toArray, g, (vs ++ cs).toArray, rfl, hinv, fun _ _ => trivial, ?_⟩⟩
      refine (hok _ m w _ (h.frame_in (fun _ e => e) hsr) (RWs_append hva hvc)).mono ?_
      rintro e u' w' ⟨rfl, v, m3, rfl, hk, _⟩
      have h2 := (h.frame_out (fun _ e => e) htt hsr hs2 hk).weakU (U' := fun b => nx' ≤ b) fun b hb => ⟨Nat.le_trans htt hb, fun _ => hb⟩
      exact xleaveM_ok hHD ds D _ nx' m3 w' hx h2 (hM.mono hk.pin) hq
    · cases hx

section
variable {O : Nat → Prop} {w0 : World} {M0 : MM} {N0 : Nat} {U : Nat → Prop} {m : MM} {sz : Nat} {tm : TW} {st : SB} {a : Act} {w : World}

theorem resOneM_ok (h : RelM O w0 M0 N0 U m sz tm st a w) {r : ResultVar} {c : W} (hx : resOneM P tm st r = some c) : ∃ v, (resOne a.tmps r).run P w = .ok v w ∧ RW m c v := by
  cases r with
  | tmp t =>
    cases hx
    exact ⟨_, rfl, h.htm t⟩
  | cell p t =>
    simp only [resOneM] at hx
    split at hx
    · next b off hb =>
      have hp := h.htm p
      rw [hb] at hp
      obtain ⟨g, C, hm, hp'⟩ := hp
      split at hx
      · next cs e size hl =>
        split at hx
        · next v rest hv =>
          cases hx
          obtain ⟨g', C', arr, h1, h2, h3, h4, h5⟩ := h.hst b _ hl
          rw [hm] at h1; cases h1
          obtain ⟨st'', rs'', us''⟩ := rest
          obtain ⟨c', y, hy, hk, hrun, _⟩ := take_sound (P := P) (w := w) (T.x_go (K := fun v' _ => v' = c) _ _ _ _ _ _ _ _ hv rfl) h4
          subst hk
          have := hrun g (cellsAt_of h3)
          refine ⟨y, ?_, hy⟩
          simp only [resOne, hp']
          simpa [asAddr, Instr.loadAt, Instr.sureAddr] using this
        · cases hx
      · cases hx
    · cases hx

theorem resAllM_ok (h : RelM O w0 M0 N0 U m sz tm st a w) : ∀ {l : List ResultVar} {cs : List W}, resAllM P tm st l = some cs → ∃ vs, (l.mapM (resOne a.tmps)).run P w = .ok vs w ∧ RWs m false cs vs
  | [], cs, hx => by cases hx; exact ⟨[], rfl, trivial⟩
  | r :: l, cs, hx => by
    simp only [resAllM] at hx
    split at hx
    · next v vs hv hvs =>
      cases hx
      obtain ⟨x, h1, h2⟩ := resOneM_ok h hv
      obtain ⟨xs, h3, h4⟩ := resAllM_ok h hvs
      exact ⟨x :: xs, by simp [List.mapM_cons, h1, h3], ⟨h2, fun e => by cases e⟩, h4⟩
    · cases hx

theorem pack_RW {cs : List W} {xs : List Value} (h : RWs m false cs xs) : RW m (packM cs) (packV xs) := by
  match cs, xs, h with
  | [], [], _ => exact ⟨#[], rfl, trivial⟩
  | [c], [x], h => exact h.1.1
  | c :: d :: cs, x :: y :: xs, h => exact ⟨_, rfl, h⟩
  | [c], x :: y :: xs, h => exact h.2.elim
  | c :: d :: cs, [x], h => exact h.2.elim

theorem resM_ok (h : RelM O w0 M0 N0 U m sz tm st a w) {fn : Func} {cs : List W} (hx : resAllM P tm st fn.results.toList = some cs) : ∃ v, (results fn a.tmps).run P w = .ok v w ∧ RW m (packM cs) v := by
  obtain ⟨vs, h1, h2⟩ := resAllM_ok h hx
  exact ⟨_, results_eq fn a.tmps w vs h1, pack_RW h2⟩
end

theorem look_startW : ∀ (avs : List W) (k i : Nat), look (((List.range' k avs.length)).zip avs) i = if k ≤ i then avs[i - k]? else none
  | [], k, i => by simp
  | c :: avs, k, i => by
    simp only [List.length_cons, List.range'_succ, List.zip_cons_cons, look_cons, look_startW avs (k + 1) i]
    by_cases h : k = i
    · subst h; simp
    · rw [if_neg h]
      by_cases h2 : k + 1 ≤ i
      · rw [if_pos h2, if_pos (by omega)]
        have : i - k = i - (k + 1) + 1 := by omega
        rw [this, List.getElem?_cons_succ]
      · rw [if_neg h2, if_neg (by omega)]

theorem start_ok {O : Nat → Prop} {m : MM} {w : World} {st : SB} {top : Nat} {args : List W} {vs : List Value} {n : Nat} (h : RelH O w m top top m st w) (hv : RWs m false args vs) (hlen : args.length ≤ n) :
    RelM O w m top (fun b => top ≤ b) m n (startW args) st { tmps := vs.toArray ++ Array.replicate (n - vs.toArray.size) undef, defers := [] } w := by
  have hl := RWs_length hv
  refine h.act (fun i => ?_) (by simp; omega)
  have e : look (startW args) i = args[i]? := by
    unfold startW
    rw [List.range_eq_range', look_startW args 0 i]
    simp
  rw [e]
  cases hi : args[i]? with
  | none => exact trivial
  | some c =>
    have hil : i < args.length := (List.getElem?_eq_some_iff.1 hi).1
    have hx : vs[i]? = some (vs[i]'(by omega)) := List.getElem?_eq_getElem (by omega)
    have := ((RWs_iff.1 hv).2 i c _ hi hx).1
    simp only [Option.getD_some]
    have e2 : (vs.toArray ++ Array.replicate (n - vs.toArray.size) undef).getD i undef = vs[i]'(by omega) := by
      rw [Array.getD_eq_getD_getElem?, Array.getElem?_append_left (by simp; omega)]
      simp [hx]
    rw [e2]
    exact this

theorem ends_eq {e : AX} (h : ends e = true) : e = .normal ∨ e = .ret := by
  cases e with
  | normal => exact .inl rfl
  | ret => exact .inr rfl
  | exit i => cases h

theorem xfnM_ok (hH : HOK P H) (hHD : HDOK P HD) (hmix : P.follows .mixedOrders = true) {g : FuncId} {fn : Func} {c : Code} (hf : P.funcs[g]? = some fn) (hb : fn.body = some c) {fuel : Nat} {args : List W} {st : SB} {top : Nat} {r : W} {st' : SB} {top' : Nat}
    (hx : xfnM P H HD fuel fn c args st top = some (r, st', top')) : FnOK P g args st top r st' top' := by
  intro O m w vs h hv
  unfold xfnM at hx
  split at hx
  · cases hx
  · next hle =>
    have hlen : args.length ≤ fn.ntmps := Nat.le_of_ble_eq_true hle
    split at hx
    · cases hx
    · next e s hc =>
      split at hx
      · cases hx
      · next hends =>
        split at hx
        · cases hx
        · next st1 nx1 hm =>
          split at hx
          · cases hx
          · next cs hr =>
            rw [kW_eq, kSB_eq] at hx
            cases hx
            refine callsIn_wide.1 (callsIn_of_wp_marks (n := 0) hf hb trivial ?_)
            refine xcodeM_sound hH hmix wide_wide c ⟨startW args, [], st, top⟩ e s hc O _ w m m top _ w (start_ok h hv hlen) trivial rfl fun a' w' m' r1' r2' r3' => ?_
            have fin : LeavesInM Fence.wide 0 P fn a'.tmps (After O w m top (sweepM st (packM cs) st1) top' (packM cs)) a'.defers .returning w' := by
              refine xleaveM_ok hHD (nx1 := top') s.ds a'.defers s.st s.nx m' w' hm r1' r3' fun m1 w1 hR1 => ?_
              obtain ⟨v, hrun, hv2⟩ := resM_ok hR1 hr
              exact ⟨v, hrun, v, m1, rfl, (hR1.sweep _ _).heap, hv2⟩
            rcases ends_eq hends with rfl | rfl
            · exact fin
            · exact fin

theorem xdefM_ok (hH : HOK P H) (hmix : P.follows .mixedOrders = true) {g : FuncId} {fn : Func} {c : Code} (hf : P.funcs[g]? = some fn) (hb : fn.body = some c) {fuel : Nat} {args : List W} {st : SB} {top : Nat} {st' : SB} {top' : Nat}
    (hx : xdefM P H fuel fn c args st top = some (st', top')) : FnDOK P g args st top st' top' := by
  intro O m w vs h hv
  unfold xdefM at hx
  split at hx
  · cases hx
  · next hle =>
    have hlen : args.length ≤ fn.ntmps := Nat.le_of_ble_eq_true hle
    split at hx
    · cases hx
    · next e s hc =>
      split at hx
      · next hends hds =>
        split at hx
        · cases hx
        · next cs hr =>
          rw [kSB_eq] at hx
          cases hx
          refine callsDIn_of_wp (n := 0) hf hb trivial ?_
          refine xcodeM_sound hH hmix wide_wide c ⟨startW args, [], st, top⟩ e s hc O _ w m m top _ w (start_ok h hv hlen) trivial rfl fun a' w' m' r1' r2' r3' => ?_
          have hde : a'.defers = [] := by
            rw [hds] at r3'
            cases hdd : a'.defers with
            | nil => rfl
            | cons d D => rw [hdd] at r3'; exact r3'.elim
          obtain ⟨v, hrun, hv2⟩ := resM_ok r1' hr
          have fin : a'.defers = [] ∧ ∃ v, (results fn a'.tmps).run P w' = .ok v w' ∧ After O w m top (sweepM st .top s.st) s.nx .top (.returned v) w' := ⟨hde, v, hrun, v, m', rfl, (r1'.sweep _ _).heap, trivial⟩
          rcases ends_eq hends with rfl | rfl
          · exact fin
          · exact fin
      · cases hx

theorem foldl_putW {m : MM} {sz : Nat} : ∀ (l : List (Tmp × W)) (vs : List (Tmp × Value)) (tm : TW) (tmps : Array Value), l.length = vs.length → (∀ (i : Nat) (p : Tmp × W) (q : Tmp × Value), l[i]? = some p → vs[i]? = some q → p.1 = q.1 ∧ p.1 < sz ∧ RW m p.2 q.2) →
    tmps.size = sz → (∀ i, RW m ((look tm i).getD .top) (tmps.getD i undef)) →
    (vs.foldl (fun t p => t.setIfInBounds p.1 p.2) tmps).size = sz ∧ ∀ i, RW m ((look (l.foldl (fun t p => p :: t) tm) i).getD .top) ((vs.foldl (fun t p => t.setIfInBounds p.1 p.2) tmps).getD i undef)
  | [], [], tm, tmps, _, _, hs, ht => ⟨hs, ht⟩
  | [], _ :: _, _, _, hl, _, _, _ => by simp at hl
  | _ :: _, [], _, _, hl, _, _, _ => by simp at hl
  | p :: l, q :: vs, tm, tmps, hl, hp, hs, ht => by
    obtain ⟨h1, h2, h3⟩ := hp 0 p q rfl rfl
    obtain ⟨p1, p2⟩ := p
    obtain ⟨q1, q2⟩ := q
    simp only at h1 h2 h3
    subst h1
    refine foldl_putW l vs ((p1, p2) :: tm) (tmps.setIfInBounds p1 q2) (by simpa using hl) (fun i p q e1 e2 => hp (i + 1) p q (by simpa using e1) (by simpa using e2)) (by simpa using hs) fun i => ?_
    rw [look_cons]
    by_cases e : p1 = i
    · subst e
      have : (tmps.setIfInBounds p1 q2).getD p1 undef = q2 := by simp [Array.getD_eq_getD_getElem?, hs, h2]
      rw [this, if_pos rfl]
      exact h3
    · rw [if_neg e]
      have := ht i
      simpa [Array.getD_eq_getD_getElem?, Array.getElem?_setIfInBounds, e] using this

theorem xroundM_ok (hH : HOK P H) (hmix : P.follows .mixedOrders = true) {fuel b : Nat} {args : List W} {st : SB} {top : Nat} {r : W} {st' : SB} {top' : Nat}
    (hx : xroundM P H fuel b args st top = some (r, st', top')) : YldOK P b args st top r st' top' := by
  intro O m w vs h hv g c hm
  have hvl := RWs_length hv
  unfold xroundM at hx
  split at hx
  · next r0 hl0 =>
    split at hx
    · next hrd =>
      split at hx
      · cases hx
      · next hlen =>
        rw [Bool.and_eq_true] at hlen
        have hn : args.length = r0.ps.size := Nat.eq_of_beq_eq_true hlen.1
        obtain ⟨g', c', lp, q1, q2, q3, q5, q6, q7, q8, q9, q10, q11⟩ := h.hst b _ hl0
        rw [hm] at q1; cases q1
        have hvs : vs.length = lp.params.size := by rw [q7, ← hn, hvl]
        have hy := run_yield (P := P) (args := vs.toArray) q3 (by simpa using hvs)
        refine ⟨_, _, _, _, hy, fun FF hW => ?_⟩
        split at hx
        · next s1 hassign =>
          split at hx
          · next r1 hl1 =>
            split at hx
            · next hrd1 =>
              split at hx
              · cases hx
              · next e s2 hbody =>
                split at hx
                · next r2 hl2 =>
                  have hfold : (lp.params.zip vs.toArray).foldl (fun tmps (t, a) => tmps.setIfInBounds t a) lp.tmps = (r0.ps.toList.zip vs).foldl (fun t p => t.setIfInBounds p.1 p.2) lp.tmps := by
                    rw [q7, ← Array.foldl_toList, Array.toList_zip]
                  have hput := foldl_putW (m := m) (sz := r0.sz) (r0.ps.toList.zip args) (r0.ps.toList.zip vs) r0.tm lp.tmps (by simp [hvl]) (by
                    intro i p q e1 e2
                    rw [List.getElem?_zip_eq_some] at e1 e2
                    have : p.1 = q.1 := by have := e1.1.symm.trans e2.1; simpa using this
                    refine ⟨this, ?_, ((RWs_iff.1 hv).2 i _ _ e1.2 e2.2).1⟩
                    have := List.all_eq_true.1 hlen.2 p.1 (List.mem_of_getElem? e1.1)
                    exact Nat.le_of_ble_eq_true this) q10 q11
                  refine roundIn_of_wpIn (hW.fn _) ?_
                  rw [hfold]
                  have hR0 : RelM O w m top (fun b => top ≤ b) m r0.sz ((r0.ps.toList.zip args).foldl (fun t p => p :: t) r0.tm) st { tmps := (r0.ps.toList.zip vs).foldl (fun t p => t.setIfInBounds p.1 p.2) lp.tmps, defers := [] } w :=
                    h.act hput.2 hput.1
                  have hrdok : RdOK m (FF.inRound g) (some b) := ⟨g, c, rfl, hm⟩
                  rw [q8]
                  refine xcodeM_sound hH hmix (wide_round hW g) r0.assign _ _ s1 hassign O _ w m m top _ w hR0 trivial hrdok fun a1 w1 m1 z1 z2 z3 => ?_
                  -- the body
                  have hm1 := z2 _ _ hm
                  obtain ⟨g1, c1, lp1, y1, y2, y3, y5, y6, y7, y8, y9, y10, y11⟩ := z1.hst b _ hl1
                  rw [hm1] at y1; cases y1
                  have hB := z1.putObj (x1 := .loop { r1 with state := .busy }) hl1 (by simp) hm1 y2 (o := .loop { lp1 with state := .busy }) (fun hnew =>
                    ⟨_, _, _, hm1, y2, hnew, rfl, y6, y7, y8, y9, y10, y11⟩)
                  refine ⟨_, run_beginRound y3 (by rw [y5]; exact isReady_eq hrd1), ?_⟩
                  rw [q9]
                  refine xcodeM_sound hH hmix (wide_round hW g) r0.body ⟨s1.tm, s1.ds, _, s1.nx⟩ e s2 hbody O _ w m m1 top _ _ hB z3 (hrdok.mono z2) fun a2 w2 m2 x1 x2 x3 => ?_
                  have hm2 := x2 _ _ hm1
                  obtain ⟨g2, c2, lp2, u1, u2, u3, u5, u6, u7, u8, u9, u10, u11⟩ := x1.hst b _ hl2
                  rw [hm2] at u1; cases u1
                  have fin : ∀ (j : Option Code) (ls : LoopState), ls = (if j.isNone then .ready else .done) → RelM O w m top (fun b => s2.nx ≤ b) m2 r0.sz s2.tm ((b, .loop { r2 with state := ls, pending := j }) :: s2.st) a2 (w2.putObj g (.loop { lp2 with state := (if j.isNone then .ready else .done), pending := j })) := by
                    intro j ls hls
                    subst hls
                    exact x1.putObj hl2 (by simp) hm2 u2 (fun hnew =>
                      ⟨_, _, _, hm2, u2, hnew, rfl, rfl, u7, u8, u9, u10, u11⟩)
                  cases e with
                  | normal =>
                    simp only [kSB_eq] at hx
                    cases hx
                    exact ⟨_, _, run_endRound none u3, _, m2, rfl, ((fin none .ready rfl).sweep _ _).heap, rfl⟩
                  | exit i =>
                    simp only [kSB_eq] at hx
                    cases hx
                    exact ⟨_, _, run_endRound (some (.exit i)) u3, _, m2, rfl, ((fin (some (.exit i)) .done rfl).sweep _ _).heap, rfl⟩
                  | ret =>
                    simp only [kSB_eq] at hx
                    cases hx
                    exact ⟨_, _, run_endRound (some .ret) u3, _, m2, rfl, ((fin (some .ret) .done rfl).sweep _ _).heap, rfl⟩
                · cases hx
            · cases hx
          · cases hx
        · cases hx
    · cases hx
  · cases hx
end

def chkW (top : Nat) : Option (W × SB × Nat) → Option (W × SB × Nat)
  | some (v, st, t) => match Nat.ble top t with
    | true => some (v, st, t)
    | false => none
  | none => none
def chkD (top : Nat) : Option (SB × Nat) → Option (SB × Nat)
  | some (st, t) => match Nat.ble top t with
    | true => some (st, t)
    | false => none
  | none => none
theorem chkW_eq {top : Nat} {r : Option (W × SB × Nat)} {v : W} {st : SB} {t : Nat} (h : chkW top r = some (v, st, t)) : r = some (v, st, t) ∧ top ≤ t := by
  unfold chkW at h
  split at h
  · next v' st' t' =>
    split at h
    · next hb => cases h; exact ⟨rfl, Nat.le_of_ble_eq_true hb⟩
    · cases h
  · cases h
theorem chkD_eq {top : Nat} {r : Option (SB × Nat)} {st : SB} {t : Nat} (h : chkD top r = some (st, t)) : r = some (st, t) ∧ top ≤ t := by
  unfold chkD at h
  split at h
  · next st' t' =>
    split at h
    · next hb => cases h; exact ⟨rfl, Nat.le_of_ble_eq_true hb⟩
    · cases h
  · cases h

/-- Calls, to a depth: of functions (true), deferred (false). -/
def runM (P : Program) (G : XG) (fuel : Nat) : Nat → WH × WD
  | 0 => (fun _ _ _ _ => none, fun _ _ _ _ => none)
  | n + 1 => (fun c avs st top => match c with
      | .fn g caps => match G g with
        | some fn => match fn.body with
          | some code => chkW top (xfnM P (runM P G fuel n).1 (runM P G fuel n).2 fuel fn code (avs ++ caps) st top)
          | none => none
        | none => none
      | .yld b => chkW top (xroundM P (runM P G fuel n).1 fuel b avs st top)
      | _ => none,
    fun g avs st top => match G g with
      | some fn => match fn.body with
        | some code => chkD top (xdefM P (runM P G fuel n).1 fuel fn code avs st top)
        | none => none
      | none => none)

section
variable {P : Program} {G : XG}
theorem runM_ok (hG : GOK P G) (hmix : P.follows .mixedOrders = true) (fuel : Nat) : ∀ n, HOK P (runM P G fuel n).1 ∧ HDOK P (runM P G fuel n).2
  | 0 => ⟨fun _ _ _ _ _ _ _ h => (by cases h), fun _ _ _ _ _ _ h => (by cases h)⟩
  | n + 1 => by
    obtain ⟨ih1, ih2⟩ := runM_ok hG hmix fuel n
    refine ⟨?_, ?_⟩
    · intro c avs st top r st' top' h
      simp only [runM] at h
      split at h
      · next g caps =>
        split at h
        · next fn hg =>
          split at h
          · next code hb =>
            obtain ⟨h1, h2⟩ := chkW_eq h
            exact ⟨h2, (hG g fn hg).2, xfnM_ok ih1 ih2 hmix (hG g fn hg).1 hb h1⟩
          · cases h
        · cases h
      · next b =>
        obtain ⟨h1, h2⟩ := chkW_eq h
        exact ⟨h2, xroundM_ok ih1 hmix h1⟩
      · cases h
    · intro g avs st top st' top' h
      simp only [runM] at h
      split at h
      · next fn hg =>
        split at h
        · next code hb =>
          obtain ⟨h1, h2⟩ := chkD_eq h
          exact ⟨h2, (hG g fn hg).2, xdefM_ok ih1 hmix (hG g fn hg).1 hb h1⟩
        · cases h
      · cases h

/-- What a call without arguments returns. -/
def valM (P : Program) (G : XG) (fuel n : Nat) (f : FuncId) : Option W := match (runM P G fuel n).1 (.fn f []) [] [] 0 with
  | some (v, _, _) => some v
  | none => none

/-- A FUNCTION WITHOUT ARGUMENTS, RUN: true or false. -/
theorem has_mi (hG : GOK P G) (hmix : P.follows .mixedOrders = true) {fuel n : Nat} {f : FuncId} {q : Bool} (h : valM P G fuel n f = some (.v (.bool q))) (hf : (G f).isSome = true) :
    Has P f { α := Unit, enc := fun _ => [], ok := fun _ => True, res := fun _ => .v (.bool q) } := by
  obtain ⟨fn, hfn⟩ := Option.isSome_iff_exists.1 hf
  refine ⟨?_, (hG f fn hfn).2⟩
  show SoundV P f _
  intro x F w vs hF hv _
  have hv0 : vs = [] := by
    cases vs with
    | nil => rfl
    | cons v vs => simp [RCs] at hv
  subst hv0
  unfold valM at h
  split at h
  · next v st nx h1 =>
    cases h
    obtain ⟨_, _, hok⟩ := (runM_ok hG hmix fuel n).1 _ _ _ _ _ _ _ h1
    have hR : RelH (fun k => w.heap.size ≤ k) w (fun _ => none) 0 0 (fun _ => none) [] w :=
      { htm := fun i => trivial, hsz := rfl, hst := fun b x hx => by simp at hx, inj := fun b b' g c c' _ _ hm => (by cases hm), fresh := fun b _ => ⟨rfl, rfl⟩, un := fun b _ => Nat.zero_le _, mlt := fun b g c hm => (by cases hm), pin := fun b y e => (by cases e), low := fun b g e => (by cases e), below := Own.refl _ _, hb := fun _ e => e }
    refine (hok _ _ w [] hR trivial).mono ?_
    rintro e w' ⟨x, m', rfl, hR', hr⟩
    have hbl : Below w.heap.size w w' := hR'.below.below
    have hr : x = .bool q := hr
    subst hr
    exact ⟨_, F, rfl, hbl, fun _ _ e => e, fun _ _ e => .inl e, fun g j e => Nat.lt_of_lt_of_le (hF g j e) hbl.size, rfl⟩
  · cases h
end
end
end Go.Ev.Mi
/- The mirror machine, a statement at a time. -/
set_option linter.unusedVariables false
set_option linter.unusedSimpArgs false
namespace Go.Ev.Mi
open Go.RowKit
noncomputable section

section
variable {β : Type}
def kTM : TW → (TW → β) → β
  | [], k => k []
  | (i, v) :: tm, k => kN i fun i => kW v fun v => kTM tm fun tm => k ((i, v) :: tm)
theorem kTM_eq : ∀ (tm : TW) (k : TW → β), kTM tm k = k tm
  | [], k => rfl
  | (i, v) :: tm, k => by simp only [kTM, kN_eq, kW_eq, kTM_eq tm]
end

def seqL : Code → Code
  | .seq a _ => a
  | c => c
def seqR : Code → Code
  | .seq _ b => b
  | c => c
def isSeqB : Code → Bool
  | .seq _ _ => true
  | _ => false

section
variable (P : Program) (H : WH)
/-- A statement, from a state without deferred calls to another. -/
def stageM (fuel sz : Nat) (c : Code) (s : MS) : Option MS := match xcodeM P H fuel sz none c s with
  | some (.normal, ⟨tm, [], st, nx⟩) => kN nx fun nx => kTM tm fun tm => kSB st fun st => some ⟨tm, [], st, nx⟩
  | _ => none
end

section
variable {P : Program} {H : WH}
theorem stage_eq {fuel sz : Nat} {c : Code} {s s' : MS} (h : stageM P H fuel sz c s = some s') : xcodeM P H fuel sz none c s = some (.normal, s') := by
  unfold stageM at h
  split at h
  · next tm st nx he =>
    rw [kN_eq, kTM_eq, kSB_eq] at h
    cases h
    exact he
  · cases h
end

/-- The rest of a function without arguments. -/
def fromM (P : Program) (G : XG) (fuel n : Nat) (fn : Func) (c : Code) (s : MS) : Option W :=
  match xcodeM P (runM P G fuel n).1 fuel fn.ntmps none c s with
    | none => none
    | some (e, s) => match ends e with
      | false => none
      | true => match xleaveM (runM P G fuel n).2 s.ds s.st s.nx with
        | none => none
        | some (st1, nx1) => match resAllM P s.tm st1 fn.results.toList with
          | none => none
          | some vs => some (packM vs)

section
variable {P : Program} {G : XG} {fuel n : Nat}
theorem valM_from {f : FuncId} {fn : Func} {c : Code} {r : W} (hg : G f = some fn) (hb : fn.body = some c) (h : fromM P G fuel n fn c ⟨[], [], [], 0⟩ = some r) : valM P G fuel (n + 1) f = some r := by
  unfold fromM at h
  split at h
  · cases h
  · next e s hx =>
    split at h
    · cases h
    · next he =>
      split at h
      · cases h
      · next st1 nx1 hl =>
        split at h
        · cases h
        · next vs hv =>
          cases h
          have h0 : Nat.ble ([] ++ [] : List W).length fn.ntmps = true := by simp
          have h1 : xcodeM P (runM P G fuel n).1 fuel fn.ntmps none c ⟨startW ([] ++ []), [], [], 0⟩ = some (e, s) := hx
          simp only [valM, runM, hg, hb, xfnM, h0, h1, he, hl, hv, kW_eq, kSB_eq, chkW]
          rw [show Nat.ble 0 nx1 = true from Nat.ble_eq_true_of_le (Nat.zero_le _)]

theorem from_seq {fn : Func} {c : Code} {s s' : MS} {r : W} (hc : isSeqB c = true) (h : stageM P (runM P G fuel n).1 fuel fn.ntmps (seqL c) s = some s') (hr : fromM P G fuel n fn (seqR c) s' = some r) : fromM P G fuel n fn c s = some r := by
  cases c with
  | seq a b =>
    have h := stage_eq h
    simp only [seqL] at h
    simp only [seqR] at hr
    unfold fromM at hr ⊢
    rw [show xcodeM P (runM P G fuel n).1 fuel fn.ntmps none (.seq a b) s = xcodeM P (runM P G fuel n).1 fuel fn.ntmps none b s' by simp only [xcodeM, h]]
    exact hr
  | _ => cases hc
end
end
end Go.Ev.Mi
