/- A part of the proof of RiverMelts. -/
import Derived.OrdersIn
import Derived.Sort.LoopGhostIn
import Derived.Test.YtfciejglnfgocaaW1
/- Regions whose order is open: the order of the text serves them all, where steps that are not ordered have nothing in common. -/
set_option linter.unusedVariables false
set_option linter.unusedSimpArgs false
namespace Go.Ev
open Go.RowKit

/-- The work of an operation, with what it reads and writes. -/
def RM.ex : RM → (Nat → Option Bx) → List Nat → List (Nat × Bx) → V → Prop
  | .fail, _, _, _, _ => False
  | .ret c, _, rs, us, v => rs = [] ∧ us = [] ∧ v = c
  | .req p k, L, rs, us, v => p ∧ k.ex L rs us v
  | @RM.dec p k _, L, rs, us, v => p ∧ k.ex L rs us v
  | .exi _ p k, L, rs, us, v => ∃ x, p x ∧ (k x).ex L rs us v
  | .get b k, L, rs, us, v => ∃ x rs', L b = some x ∧ rs = b :: rs' ∧ (k x).ex L rs' us v
  | .put b x k, L, rs, us, v => ∃ us', us = us' ++ [(b, x)] ∧ k.ex (fun j => if b = j then some x else L j) rs us' v

theorem RM.ex_go : ∀ (r : RM) (st : ST) (rs : List Nat) (us : List (Nat × Bx)) (v : V) (K : V → ST → Prop), r.ex (look st) rs us v → K v (us ++ st) → r.go st K
  | .fail, st, rs, us, v, K, h, _ => h.elim
  | .ret c, st, rs, us, v, K, ⟨_, h2, h3⟩, hk => by subst h2 h3; exact hk
  | .req p k, st, rs, us, v, K, ⟨h1, h2⟩, hk => ⟨h1, ex_go k st rs us v K h2 hk⟩
  | @RM.dec p k _, st, rs, us, v, K, ⟨h1, h2⟩, hk => ⟨h1, ex_go k st rs us v K h2 hk⟩
  | .exi _ p k, st, rs, us, v, K, ⟨x, h1, h2⟩, hk => ⟨x, h1, ex_go (k x) st rs us v K h2 hk⟩
  | .get b k, st, rs, us, v, K, ⟨x, rs', h1, _, h2⟩, hk => by
    simp only [RM.go, h1]
    exact ex_go (k x) st rs' us v K h2 hk
  | .put b x k, st, rs, us, v, K, ⟨us', h1, h2⟩, hk => by
    simp only [RM.go]
    have e : (fun j => if b = j then some x else look st j) = look ((b, x) :: st) := by funext j; rw [look_cons]
    rw [e] at h2
    refine ex_go k _ rs us' v K h2 ?_
    subst h1
    simpa using hk

theorem RM.goT_ex : ∀ (r : RM) (st : ST) (rs0 ws0 : List Nat) (K : V → ST → List Nat → List Nat → Prop), r.goT st rs0 ws0 K →
    ∃ rs us v rs1 ws1, r.ex (look st) rs us v ∧ K v (us ++ st) rs1 ws1 ∧ (∀ b, b ∈ rs1 ↔ b ∈ rs0 ∨ b ∈ rs) ∧ (∀ b, b ∈ ws1 ↔ b ∈ ws0 ∨ b ∈ us.map (·.1))
  | .fail, st, rs0, ws0, K, h => h.elim
  | .ret c, st, rs0, ws0, K, h => ⟨[], [], c, rs0, ws0, ⟨rfl, rfl, rfl⟩, h, by simp, by simp⟩
  | .req p k, st, rs0, ws0, K, ⟨h1, h2⟩ => by
    obtain ⟨rs, us, v, rs1, ws1, e1, e2, e3, e4⟩ := goT_ex k st rs0 ws0 K h2
    exact ⟨rs, us, v, rs1, ws1, ⟨h1, e1⟩, e2, e3, e4⟩
  | @RM.dec p k _, st, rs0, ws0, K, ⟨h1, h2⟩ => by
    obtain ⟨rs, us, v, rs1, ws1, e1, e2, e3, e4⟩ := goT_ex k st rs0 ws0 K h2
    exact ⟨rs, us, v, rs1, ws1, ⟨h1, e1⟩, e2, e3, e4⟩
  | .exi _ p k, st, rs0, ws0, K, ⟨x, h1, h2⟩ => by
    obtain ⟨rs, us, v, rs1, ws1, e1, e2, e3, e4⟩ := goT_ex (k x) st rs0 ws0 K h2
    exact ⟨rs, us, v, rs1, ws1, ⟨x, h1, e1⟩, e2, e3, e4⟩
  | .get b k, st, rs0, ws0, K, h => by
    simp only [RM.goT] at h
    split at h
    · next x hx =>
      obtain ⟨rs, us, v, rs1, ws1, e1, e2, e3, e4⟩ := goT_ex (k x) st (b :: rs0) ws0 K h
      refine ⟨b :: rs, us, v, rs1, ws1, ⟨x, rs, hx, rfl, e1⟩, e2, fun q => ?_, e4⟩
      rw [e3]
      simp only [List.mem_cons]
      constructor
      · rintro ((h | h) | h)
        · exact .inr (.inl h)
        · exact .inl h
        · exact .inr (.inr h)
      · rintro (h | h | h)
        · exact .inl (.inr h)
        · exact .inl (.inl h)
        · exact .inr h
    · cases h
  | .put b x k, st, rs0, ws0, K, h => by
    simp only [RM.goT] at h
    obtain ⟨rs, us, v, rs1, ws1, e1, e2, e3, e4⟩ := goT_ex k ((b, x) :: st) rs0 (b :: ws0) K h
    have e : (fun j => if b = j then some x else look st j) = look ((b, x) :: st) := by funext j; rw [look_cons]
    refine ⟨rs, us ++ [(b, x)], v, rs1, ws1, ⟨us, rfl, by rw [e]; exact e1⟩, by simpa using e2, e3, fun q => ?_⟩
    rw [e4]
    simp only [List.mem_cons, List.map_append, List.map_cons, List.map_nil, List.mem_append, List.mem_singleton, List.not_mem_nil, or_false]
    constructor
    · rintro ((h | h) | h)
      · exact .inr (.inr h)
      · exact .inl h
      · exact .inr (.inl h)
    · rintro (h | h | h)
      · exact .inl (.inr h)
      · exact .inr h
      · exact .inl (.inl h)

theorem RM.ex_congr : ∀ (r : RM) (L L' : Nat → Option Bx) (rs : List Nat) (us : List (Nat × Bx)) (v : V), r.ex L rs us v → (∀ b ∈ rs, L' b = L b) → r.ex L' rs us v
  | .fail, _, _, _, _, _, h, _ => h
  | .ret c, _, _, _, _, _, h, _ => h
  | .req p k, L, L', rs, us, v, ⟨h1, h2⟩, he => ⟨h1, ex_congr k L L' rs us v h2 he⟩
  | @RM.dec p k _, L, L', rs, us, v, ⟨h1, h2⟩, he => ⟨h1, ex_congr k L L' rs us v h2 he⟩
  | .exi _ p k, L, L', rs, us, v, ⟨x, h1, h2⟩, he => ⟨x, h1, ex_congr (k x) L L' rs us v h2 he⟩
  | .get b k, L, L', rs, us, v, ⟨x, rs', h1, h2, h3⟩, he => by
    subst h2
    exact ⟨x, rs', by rw [he b (by simp), h1], rfl, ex_congr (k x) L L' rs' us v h3 (fun b hb => he b (by simp [hb]))⟩
  | .put b x k, L, L', rs, us, v, ⟨us', h1, h2⟩, he => by
    refine ⟨us', h1, ex_congr k _ _ rs us' v h2 (fun q hq => ?_)⟩
    by_cases e : b = q
    · simp [e]
    · simpa [e] using he q hq

theorem look_append {α : Type} : ∀ (us st : List (Nat × α)) (j : Nat), look (us ++ st) j = (look us j).or (look st j)
  | [], st, j => by simp
  | (i, x) :: us, st, j => by
    rw [List.cons_append, look_cons, look_cons]
    split
    · simp
    · exact look_append us st j

theorem look_none {α : Type} : ∀ {us : List (Nat × α)} {j : Nat}, j ∉ us.map (·.1) → look us j = none
  | [], j, _ => rfl
  | (i, x) :: us, j, h => by
    simp only [List.map_cons, List.mem_cons, not_or] at h
    rw [look_cons, if_neg (fun e => h.1 e.symm)]
    exact look_none h.2

section
variable (P : Program) (C : FuncId → Option Con) (sz : Nat) (ops : Array Oper) (nx : Nat)

/-- One step of a region. -/
def stepA (i : Nat) (o : Oper) (tm : TM) (L : Nat → Option Bx) (rs : List Nat) (us : List (Nat × Bx)) (v : V) : Prop :=
  okDst sz o.dst = true ∧ match o.guard with
    | none => (opR P C (nx + i) (ev tm) o.op).ex L rs us v
    | some (j, want) => ∃ d b, (ops.toList[j]?).bind (·.dst) = some d ∧ (look tm d).getD .top = .v (.bool b) ∧
      (if b = want then (opR P C (nx + i) (ev tm) o.op).ex L rs us v else rs = [] ∧ us = [] ∧ v = .top)

abbrev FP := List Nat × List (Nat × Bx) × V

def TrD : List (Nat × Oper) → TM → ST → List FP → Prop
  | [], _, _, [] => True
  | (i, o) :: l, tm, st, (rs, us, v) :: fs => stepA P C sz ops nx i o tm (look st) rs us v ∧ TrD l (putT tm o.dst v) (us ++ st) fs
  | _, _, _, _ => False

def endTm : List (Nat × Oper) → TM → List FP → TM
  | (_, o) :: l, tm, (_, _, v) :: fs => endTm l (putT tm o.dst v) fs
  | _, tm, _ => tm
def endSt : List FP → ST → ST
  | (_, us, _) :: fs, st => endSt fs (us ++ st)
  | [], st => st

def Eqv {α : Type} (s t : List (Nat × α)) : Prop := ∀ j, look s j = look t j

variable {P C sz ops nx}

theorem opR_congr {id : Nat} {ρ ρ' : Operand → V} {op : Op} (h : ∀ x ∈ op.operands, ρ x = ρ' x) : opR P C id ρ op = opR P C id ρ' op := by
  have hm : ∀ {l : List Operand}, (∀ x ∈ l, ρ x = ρ' x) → l.map ρ = l.map ρ' := fun h => List.map_congr_left h
  cases op
  all_goals try (simp only [opR]; done)
  case build t parts =>
    have e : (parts.toList.map fun (i, x) => (i, ρ x)) = (parts.toList.map fun (i, x) => (i, ρ' x)) := by
      refine List.map_congr_left fun p hp => ?_
      have := h p.2 (by simp only [Op.operands]; simp; exact ⟨p.1, by simpa using hp⟩)
      obtain ⟨i, x⟩ := p
      simp only at this ⊢
      rw [this]
    simp only [opR, e]
  case buildSlice t n parts =>
    have e : (parts.toList.map fun (i, x) => (i, ρ x)) = (parts.toList.map fun (i, x) => (i, ρ' x)) := by
      refine List.map_congr_left fun p hp => ?_
      have := h p.2 (by simp only [Op.operands]; simp; exact ⟨p.1, by simpa using hp⟩)
      obtain ⟨i, x⟩ := p
      simp only at this ⊢
      rw [this]
    simp only [opR, e]
  case call c =>
    obtain ⟨callee, args, ts⟩ := c
    cases callee with
    | value f =>
      have e1 : ρ f = ρ' f := h f (by simp [Op.operands, Call.operands])
      have e2 : args.toList.map ρ = args.toList.map ρ' := hm fun x hx => h x (by simp [Op.operands, Call.operands]; right; simpa using hx)
      simp only [opR, e1, e2]
    | builtin b =>
      have e2 : ∀ x ∈ args.toList, ρ x = ρ' x := fun x hx => h x (by simp [Op.operands, Call.operands]; simpa using hx)
      have e3 := hm e2
      cases b <;> simp only [opR, e3]
      all_goals
        generalize args.toList = l at e2
        match l with
        | [] => rfl
        | [x] => simp only [e2 x (by simp)]
        | [x, y] => simp only [e2 x (by simp), e2 y (by simp)]
        | x :: y :: z :: l => rfl
    | invoke r n => simp only [opR]
  case makeFunc fn first caps =>
    have e2 : caps.toList.map ρ = caps.toList.map ρ' := hm fun x hx => h x (by simp [Op.operands]; right; simpa using hx)
    simp only [opR, e2]
  case slice t x lo hi mx =>
    have e1 : ρ x = ρ' x := h x (by simp [Op.operands])
    have e2 : ∀ (d : Int), boundI ρ lo d = boundI ρ' lo d := by
      intro d
      cases lo with
      | none => rfl
      | some y => simp only [boundI, h y (by simp [Op.operands])]
    have e3 : ∀ (d : Int), boundI ρ hi d = boundI ρ' hi d := by
      intro d
      cases hi with
      | none => rfl
      | some y => simp only [boundI, h y (by simp [Op.operands])]
    simp only [opR, e1, e2, e3]
  all_goals (simp only [Op.operands] at h; simp at h; simp only [opR, h])

theorem look_ev {tm tm' : TM} {x : Operand} (h : ∀ t, x = .tmp t → look tm' t = look tm t) : ev tm' x = ev tm x := by
  cases x with
  | tmp t => simp only [ev, h t rfl]
  | _ => rfl

theorem mem_looksAt {o : Oper} {t : Tmp} (h : Operand.tmp t ∈ o.op.operands) : t ∈ o.looksAt ops := by
  unfold Oper.looksAt
  refine List.mem_append.2 (.inl (List.mem_filterMap.2 ⟨_, Array.mem_toList_iff.2 h, rfl⟩))

theorem stepA_congr {i : Nat} {o : Oper} {tm tm' : TM} {L L' : Nat → Option Bx} {rs : List Nat} {us : List (Nat × Bx)} {v : V} (h : stepA P C sz ops nx i o tm L rs us v)
    (ht : ∀ t ∈ o.looksAt ops, look tm' t = look tm t) (hL : ∀ b ∈ rs, L' b = L b) : stepA P C sz ops nx i o tm' L' rs us v := by
  have hop : opR P C (nx + i) (ev tm') o.op = opR P C (nx + i) (ev tm) o.op := opR_congr fun x hx => look_ev fun t e => ht t (by subst e; exact mem_looksAt hx)
  obtain ⟨h1, h2⟩ := h
  refine ⟨h1, ?_⟩
  cases hg : o.guard with
  | none =>
    rw [hg] at h2
    simp only at h2 ⊢
    rw [hop]
    exact RM.ex_congr _ _ _ _ _ _ h2 hL
  | some q =>
    obtain ⟨j, want⟩ := q
    rw [hg] at h2
    simp only at h2 ⊢
    obtain ⟨d, b, e1, e2, e3⟩ := h2
    refine ⟨d, b, e1, ?_, ?_⟩
    · rw [ht d]
      · exact e2
      · unfold Oper.looksAt
        refine List.mem_append.2 (.inr ?_)
        rw [hg]
        rw [Array.getElem?_toList] at e1
        simp [e1]
    · split
      · next hb =>
        rw [if_pos hb] at e3
        rw [hop]
        exact RM.ex_congr _ _ _ _ _ _ e3 hL
      · next hb => rw [if_neg hb] at e3; exact e3

theorem Eqv.cons {α : Type} {s t : List (Nat × α)} (h : Eqv s t) (us : List (Nat × α)) : Eqv (us ++ s) (us ++ t) := fun j => by rw [look_append, look_append, h j]

theorem Eqv.put {s t : TM} (h : Eqv s t) (d : Option Nat) (v : V) : Eqv (putT s d v) (putT t d v) := by
  cases d with
  | none => exact h
  | some i => intro j; simp only [putT, look_cons, h j]

theorem TrD_congr : ∀ {l : List (Nat × Oper)} {tm tm' : TM} {st st' : ST} {fs : List FP}, TrD P C sz ops nx l tm st fs → Eqv tm' tm → Eqv st' st →
    TrD P C sz ops nx l tm' st' fs ∧ Eqv (endTm l tm' fs) (endTm l tm fs) ∧ Eqv (endSt fs st') (endSt fs st)
  | [], tm, tm', st, st', [], h, e1, e2 => ⟨trivial, e1, e2⟩
  | [], _, _, _, _, _ :: _, h, _, _ => h.elim
  | _ :: _, _, _, _, _, [], h, _, _ => by simp [TrD] at h
  | (i, o) :: l, tm, tm', st, st', (rs, us, v) :: fs, ⟨h1, h2⟩, e1, e2 => by
    obtain ⟨q1, q2, q3⟩ := TrD_congr h2 (e1.put o.dst v) (e2.cons us)
    exact ⟨⟨stepA_congr h1 (fun t _ => e1 t) (fun b _ => e2 b), q1⟩, q2, q3⟩

/-- Two steps that have nothing in common. -/
def Indep (ops : Array Oper) (x y : Oper) (f g : FP) : Prop :=
  x.apart ops y = true ∧ (∀ b ∈ f.2.1.map (·.1), b ∉ g.1 ∧ b ∉ g.2.1.map (·.1)) ∧ (∀ b ∈ g.2.1.map (·.1), b ∉ f.1)

theorem look_put_ne {tm : TM} {d : Option Nat} {v : V} {t : Nat} (h : d ≠ some t) : look (putT tm d v) t = look tm t := by
  cases d with
  | none => rfl
  | some i => rw [putT, look_cons, if_neg (fun e => h (by rw [e]))]

/-- A step that is independent of those before it can be taken first. -/
theorem TrD_first : ∀ {l1 l2 : List (Nat × Oper)} {i : Nat} {o : Oper} {tm : TM} {st : ST} {f1 f2 : List FP} {f : FP}, l1.length = f1.length → TrD P C sz ops nx (l1 ++ (i, o) :: l2) tm st (f1 ++ f :: f2) →
    (∀ (k : Nat) (p : Nat × Oper) (g : FP), l1[k]? = some p → f1[k]? = some g → Indep ops p.2 o g f) →
    TrD P C sz ops nx ((i, o) :: (l1 ++ l2)) tm st (f :: (f1 ++ f2)) ∧ Eqv (endTm ((i, o) :: (l1 ++ l2)) tm (f :: (f1 ++ f2))) (endTm (l1 ++ (i, o) :: l2) tm (f1 ++ f :: f2)) ∧
      Eqv (endSt (f :: (f1 ++ f2)) st) (endSt (f1 ++ f :: f2) st)
  | [], l2, i, o, tm, st, [], f2, f, _, h, _ => ⟨h, fun _ => rfl, fun _ => rfl⟩
  | [], _, _, _, _, _, _ :: _, _, _, hl, _, _ => by simp at hl
  | _ :: _, _, _, _, _, _, [], _, _, hl, _, _ => by simp at hl
  | (j, oj) :: l1, l2, i, o, tm, st, (rj, uj, vj) :: f1, f2, f, hl, h, hi => by
    obtain ⟨h1, h2⟩ := h
    obtain ⟨q1, q2, q3⟩ := TrD_first (by simpa using hl) h2 (fun k p g hp hg => hi (k + 1) p g (by simpa using hp) (by simpa using hg))
    obtain ⟨ri, ui, vi⟩ := f
    obtain ⟨q4, q5⟩ := q1
    obtain ⟨i1, i2, i3⟩ := hi 0 _ _ rfl rfl
    obtain ⟨a1, a2, a3⟩ := Oper.apart_spec i1
    simp only at i2 i3 a1 a2 a3
    have e1 : stepA P C sz ops nx i o tm (look st) ri ui vi := stepA_congr q4 (fun t ht => by
      rw [look_put_ne]
      intro e
      exact a1 t e ht) (fun b hb => by
      rw [look_append, look_none (fun hm => (i2 b hm).1 hb)]; rfl)
    have e2 : stepA P C sz ops nx j oj (putT tm o.dst vi) (look (ui ++ st)) rj uj vj := stepA_congr h1 (fun t ht => look_put_ne fun e => a3 t e ht) (fun b hb => by
      rw [look_append, look_none (fun hm => i3 b hm hb)]; rfl)
    have et : Eqv (putT (putT tm o.dst vi) oj.dst vj) (putT (putT tm oj.dst vj) o.dst vi) := by
      intro t
      by_cases c1 : oj.dst = some t
      · have c2 : o.dst ≠ some t := a2 t c1
        rw [look_put_ne c2, c1]
        simp only [putT, look_cons, if_true]
      · rw [look_put_ne c1]
        by_cases c2 : o.dst = some t
        · rw [c2]; simp only [putT, look_cons, if_true]
        · rw [look_put_ne c2, look_put_ne c2, look_put_ne c1]
    have es : Eqv (uj ++ (ui ++ st)) (ui ++ (uj ++ st)) := by
      intro b
      rw [look_append, look_append, look_append, look_append]
      by_cases c1 : b ∈ uj.map (·.1)
      · rw [look_none (us := ui) (i2 b c1).2]; simp
      · rw [look_none c1]; simp
    obtain ⟨t1, t2, t3⟩ := TrD_congr q5 et es
    exact ⟨⟨e1, e2, t1⟩, fun t => (t2 t).trans (q2 t), fun b => (t3 b).trans (q3 b)⟩

theorem enumL_get : ∀ {os : List Oper} {i k : Nat} {p : Nat × Oper}, (enumL i os)[k]? = some p → p.1 = i + k ∧ os[k]? = some p.2
  | [], _, _, _, h => by simp [enumL] at h
  | o :: os, i, 0, p, h => by simp [enumL] at h; subst h; simp
  | o :: os, i, k + 1, p, h => by
    simp only [enumL, List.getElem?_cons_succ] at h
    obtain ⟨h1, h2⟩ := enumL_get h
    exact ⟨by omega, by simpa using h2⟩

theorem enumL_length : ∀ (os : List Oper) (i : Nat), (enumL i os).length = os.length
  | [], _ => rfl
  | o :: os, i => by simp [enumL, enumL_length os (i + 1)]

/-- Ordered, or independent. -/
def Free (ops : Array Oper) (p q : Nat × Oper) (f g : FP) : Prop := (∃ e ∈ q.2.after, Region.binds .any e = true ∧ e.on = p.1) ∨ Indep ops p.2 q.2 f g

theorem indepB_spec {i : Nat} {o : Oper} {rs ws : List Nat} {prev : List (Nat × Oper × List Nat × List Nat)} (h : indepB ops o rs ws prev = true) {j : Nat} {oj : Oper} {rj wj : List Nat}
    (hm : (j, oj, rj, wj) ∈ prev) {f g : FP} (h1 : ∀ b, b ∈ rj ↔ b ∈ f.1) (h2 : ∀ b, b ∈ wj ↔ b ∈ f.2.1.map (·.1)) (h3 : ∀ b, b ∈ rs ↔ b ∈ g.1) (h4 : ∀ b, b ∈ ws ↔ b ∈ g.2.1.map (·.1)) : Free ops (j, oj) (i, o) f g := by
  have := List.all_eq_true.1 h _ hm
  simp only [Bool.or_eq_true, Bool.and_eq_true, List.all_eq_true, Bool.not_eq_true', List.contains_eq_mem, decide_eq_false_iff_not] at this
  rcases this with h5 | ⟨⟨h5, h6⟩, h7⟩
  · left
    rw [Array.any_eq_true] at h5
    obtain ⟨q, hq, hb⟩ := h5
    simp only [Bool.and_eq_true, beq_iff_eq] at hb
    exact ⟨_, Array.getElem_mem hq, hb.1, hb.2⟩
  · right
    refine ⟨h5, fun b hb => ?_, fun b hb => ?_⟩
    · have := h6 b ((h2 b).2 hb)
      exact ⟨fun e => this.1 ((h3 b).2 e), fun e => this.2 ((h4 b).2 e)⟩
    · have := h7 b ((h4 b).2 hb)
      exact fun e => this ((h1 b).2 e)

def TrEx (P : Program) (C : FuncId → Option Con) (sz : Nat) (ops : Array Oper) (nx : Nat) (K : TM → ST → Prop) (os : List Oper) (i : Nat) (tm : TM) (st : ST) (prev : List (Nat × Oper × List Nat × List Nat)) : Prop :=
    ∃ fs : List FP, fs.length = os.length ∧ TrD P C sz ops nx (enumL i os) tm st fs ∧ K (endTm (enumL i os) tm fs) (endSt fs st) ∧
      (∀ (a b : Nat) (p q : Nat × Oper) (f g : FP), a < b → (enumL i os)[a]? = some p → (enumL i os)[b]? = some q → fs[a]? = some f → fs[b]? = some g → Free ops p q f g) ∧
      (∀ (b : Nat) (q : Nat × Oper) (f g : FP) (j : Nat) (oj : Oper) (rj wj : List Nat), (j, oj, rj, wj) ∈ prev → (enumL i os)[b]? = some q → fs[b]? = some g → (∀ b, b ∈ rj ↔ b ∈ f.1) → (∀ b, b ∈ wj ↔ b ∈ f.2.1.map (·.1)) → Free ops (j, oj) q f g)

theorem evOpsD_tr {K : TM → ST → Prop} : ∀ (os : List Oper) (i : Nat) (tm : TM) (st : ST) (prev : List (Nat × Oper × List Nat × List Nat)), evOpsD P C sz ops nx os i tm st prev K → TrEx P C sz ops nx K os i tm st prev
  | [], i, tm, st, prev, h => ⟨[], rfl, trivial, h, by simp [enumL], by simp [enumL]⟩
  | o :: os, i, tm, st, prev, h => by
    simp only [evOpsD] at h
    split at h
    · cases h
    · next hd =>
      have main : ∀ (rs : List Nat) (us : List (Nat × Bx)) (v : V) (rs1 ws1 : List Nat), stepA P C sz ops nx i o tm (look st) rs us v → (∀ b, b ∈ rs1 ↔ b ∈ rs) → (∀ b, b ∈ ws1 ↔ b ∈ us.map (·.1)) →
          (match indepB ops o rs1 ws1 prev with
            | false => False
            | true => evOpsD P C sz ops nx os (i + 1) (putT tm o.dst v) (us ++ st) ((i, o, rs1, ws1) :: prev) K) →
          TrEx P C sz ops nx K (o :: os) i tm st prev := by
        intro rs us v rs1 ws1 hs e1 e2 hm
        split at hm
        · cases hm
        · next hind =>
          obtain ⟨fs, q1, q2, q3, q4, q5⟩ := evOpsD_tr os (i + 1) _ _ _ hm
          refine ⟨(rs, us, v) :: fs, by simp [q1], ⟨hs, q2⟩, q3, ?_, ?_⟩
          · intro a b p q f g hab hp hq hf hg
            cases b with
            | zero => omega
            | succ b =>
              simp only [enumL, List.getElem?_cons_succ] at hq hg
              cases a with
              | zero =>
                simp only [enumL, List.getElem?_cons_zero, Option.some.injEq] at hp hf
                subst hp hf
                exact q5 b q (rs, us, v) g i o rs1 ws1 (by simp) hq hg e1 e2
              | succ a =>
                simp only [enumL, List.getElem?_cons_succ] at hp hf
                exact q4 a b p q f g (by omega) hp hq hf hg
          · intro b q f g j oj rj wj hmem hq hg h1 h2
            cases b with
            | zero =>
              simp only [enumL, List.getElem?_cons_zero, Option.some.injEq] at hq hg
              subst hq hg
              exact indepB_spec hind hmem h1 h2 e1 e2
            | succ b =>
              simp only [enumL, List.getElem?_cons_succ] at hq hg
              exact q5 b q f g j oj rj wj (by simp [hmem]) hq hg h1 h2
      have run : (opR P C (nx + i) (ev tm) o.op).goT st [] [] (fun v st' rs ws => match indepB ops o rs ws prev with
            | false => False
            | true => evOpsD P C sz ops nx os (i + 1) (putT tm o.dst v) st' ((i, o, rs, ws) :: prev) K) → (∀ rs us v, (opR P C (nx + i) (ev tm) o.op).ex (look st) rs us v → stepA P C sz ops nx i o tm (look st) rs us v) → TrEx P C sz ops nx K (o :: os) i tm st prev := by
        intro hg hst
        obtain ⟨rs, us, v, rs1, ws1, w1, w2, w3, w4⟩ := RM.goT_ex _ _ _ _ _ hg
        exact main rs us v rs1 ws1 (hst _ _ _ w1) (by simpa using w3) (by simpa using w4) w2
      split at h
      · next hgd => exact run h (fun rs us v w => ⟨hd, by rw [hgd]; exact w⟩)
      · next j want hgd =>
        split at h
        · cases h
        · next d hdj =>
          split at h
          · next b hb =>
            have skip : b ≠ want → (match indepB ops o [] [] prev with
                | false => False
                | true => evOpsD P C sz ops nx os (i + 1) (putT tm o.dst .top) st ((i, o, [], []) :: prev) K) → TrEx P C sz ops nx K (o :: os) i tm st prev := fun hne hs => main [] [] .top [] [] ⟨hd, by rw [hgd]; exact ⟨d, b, hdj, hb, by rw [if_neg hne]; exact ⟨rfl, rfl, rfl⟩⟩⟩ (by simp) (by simp) hs
            have take : b = want → ((opR P C (nx + i) (ev tm) o.op).goT st [] [] (fun v st' rs ws => match indepB ops o rs ws prev with
                | false => False
                | true => evOpsD P C sz ops nx os (i + 1) (putT tm o.dst v) st' ((i, o, rs, ws) :: prev) K)) → TrEx P C sz ops nx K (o :: os) i tm st prev := fun he hg => run hg (fun rs us v w => ⟨hd, by rw [hgd]; exact ⟨d, b, hdj, hb, by rw [if_pos he]; exact w⟩⟩)
            cases want
            · obtain ⟨g1, g2⟩ := br_elim h
              cases b
              · exact take rfl (g2 rfl)
              · exact skip (by simp) (g1 rfl)
            · obtain ⟨g1, g2⟩ := br_elim h
              cases b
              · exact skip (by simp) (g2 rfl)
              · exact take rfl (g1 rfl)
          · cases h
end
end Go.Ev
/- Regions whose order is open: whatever order the tape gives. -/
set_option linter.unusedVariables false
set_option linter.unusedSimpArgs false
namespace Go.Ev
open Go.RowKit

section
variable {P : Program} {C : FuncId → Option Con} {sz : Nat} {ops : Array Oper} {nx : Nat}

theorem Rel.congrT {O : Nat → Prop} {w0 : World} {F0 : FZ} {M0 : MP} {D : List Deferred} {U : Nat → Prop} {F : FZ} {m : MP} {sz : Nat} {tm tm' : TM} {st : ST} {a : Act} {w : World}
    (h : Rel O w0 F0 M0 D U F m sz tm st a w) (hl : Eqv tm' tm) : Rel O w0 F0 M0 D U F m sz tm' st a w :=
  { h with htm := fun i => by rw [hl i]; exact h.htm i }

/-- What is left to be done, while some are done. -/
structure Left (ops : Array Oper) (listed : Array Bool) (l : List (Nat × Oper)) (fs : List FP) : Prop where
  len : l.length = fs.length
  mem : ∀ i o, (i, o) ∈ l → ops[i]? = some o ∧ listed.getD i true = false
  all : ∀ i o, ops[i]? = some o → listed.getD i true = false → (i, o) ∈ l
  asc : l.Pairwise (fun p q => p.1 < q.1)
  free : ∀ (a b : Nat) (p q : Nat × Oper) (f g : FP), a < b → l[a]? = some p → l[b]? = some q → fs[a]? = some f → fs[b]? = some g → Free ops p q f g
  size : listed.size = ops.size

theorem getD_of_lt {listed : Array Bool} {i : Nat} (h : i < listed.size) (d d' : Bool) : listed.getD i d = listed.getD i d' := by
  simp [Array.getD, h]

theorem split_at {α : Type} : ∀ {l : List α} {x : α}, x ∈ l → ∃ l1 l2, l = l1 ++ x :: l2
  | y :: l, x, h => by
    cases h with
    | head => exact ⟨[], l, rfl⟩
    | tail _ h => obtain ⟨l1, l2, rfl⟩ := split_at h; exact ⟨y :: l1, l2, rfl⟩

theorem split_same {α β : Type} : ∀ {l1 : List α} {x : α} {l2 : List α} {fs : List β}, (l1 ++ x :: l2).length = fs.length → ∃ f1 f f2, fs = f1 ++ f :: f2 ∧ f1.length = l1.length ∧ f2.length = l2.length
  | [], x, l2, [], h => by simp at h
  | [], x, l2, f :: fs, h => ⟨[], f, fs, rfl, rfl, by simpa using h.symm⟩
  | y :: l1, x, l2, [], h => by simp at h
  | y :: l1, x, l2, f :: fs, h => by
    obtain ⟨f1, g, f2, rfl, h1, h2⟩ := split_same (l1 := l1) (x := x) (l2 := l2) (fs := fs) (by simpa using h)
    exact ⟨f :: f1, g, f2, rfl, by simp [h1], h2⟩

theorem anyOrder (hC : CtxOK P C) {FF : Fence} (hW : Wide FF) (hahead : ∀ i o, ops[i]? = some o → ∀ e ∈ o.after, Region.binds .any e = true → e.on < i) {O : Nat → Prop} {w0 : World} {F0 : FZ} {M0 : MP} {D : List Deferred} {Q : Exit → Act → World → Prop} {tmE : TM} {stE : ST}
    (hend : ∀ F m a w, Rel O w0 F0 M0 D (fun b => nx + ops.size ≤ b) F m sz tmE stE a w → Q .normal a w) :
    ∀ (n : Nat) (listed : Array Bool) (l : List (Nat × Oper)) (fs : List FP) (F : FZ) (m : MP) (tm : TM) (st : ST) (a : Act) (w : World), l.length = n → Left ops listed l fs →
      Rel O w0 F0 M0 D (fun b => nx ≤ b ∧ (b < nx + ops.size → listed.getD (b - nx) true = false)) F m sz tm st a w → TrD P C sz ops nx l tm st fs → Eqv (endTm l tm fs) tmE → Eqv (endSt fs st) stE →
      wpAnyIn FF 0 P .any ops Q n listed a w
  | 0, listed, l, fs, F, m, tm, st, a, w, hn, hL, h, ht, e1, e2 => by
    obtain rfl : l = [] := List.eq_nil_of_length_eq_zero hn
    obtain rfl : fs = [] := List.eq_nil_of_length_eq_zero (by rw [← hL.len]; rfl)
    have hr : Region.ready .any ops listed = [] := by
      cases hr : Region.ready .any ops listed with
      | nil => rfl
      | cons i rs =>
        obtain ⟨h1, o, ho, _⟩ := mem_ready.1 (show i ∈ Region.ready .any ops listed by rw [hr]; simp)
        cases hL.all i o ho h1
    exact ⟨hr, hend F m a w (((h.congrT fun j => (e1 j).symm).congr fun j => (e2 j).symm).weakU fun b hb => ⟨by omega, fun hb2 => by omega⟩)⟩
  | n + 1, listed, l, fs, F, m, tm, st, a, w, hn, hL, h, ht, e1, e2 => by
    refine ⟨fun hr => ?_, fun i hi => ?_⟩
    · -- some operation is ready
      exfalso
      match l, hn with
      | (i, o) :: l, _ =>
        obtain ⟨ho, hlist⟩ := hL.mem i o (by simp)
        have : i ∈ Region.ready .any ops listed := by
          refine mem_ready.2 ⟨hlist, o, ho, fun e he hb => ?_⟩
          have hlt := hahead i o ho e he hb
          have hi : i < ops.size := (Array.getElem?_eq_some_iff.1 ho).1
          have hel : e.on < listed.size := by rw [hL.size]; omega
          rw [getD_of_lt hel false true]
          cases hc : listed.getD e.on true with
          | true => rfl
          | false =>
            have hm := hL.all e.on ops[e.on] (by simp) hc
            have hasc := hL.asc
            simp only [List.pairwise_cons] at hasc
            rcases List.mem_cons.1 hm with hm | hm
            · have := congrArg Prod.fst hm; simp only at this; omega
            · have := hasc.1 _ hm; simp only at this; omega
        rw [hr] at this
        cases this
    · obtain ⟨hlist, o, ho, hpre⟩ := mem_ready.1 hi
      have hmem := hL.all i o ho hlist
      obtain ⟨l1, l2, rfl⟩ := split_at hmem
      obtain ⟨f1, f, f2, rfl, hl1, hl2⟩ := split_same hL.len
      have hi' : i < ops.size := (Array.getElem?_eq_some_iff.1 ho).1
      obtain ⟨q1, q2, q3⟩ := TrD_first hl1.symm ht (by
        intro k p g hp hg
        have hk : k < l1.length := (List.getElem?_eq_some_iff.1 hp).1
        have hfree := hL.free k l1.length p (i, o) g f hk (by rw [List.getElem?_append_left hk]; exact hp) (by simp) (by rw [List.getElem?_append_left (by omega)]; exact hg) (by rw [← hl1]; simp)
        rcases hfree with ⟨e, he, hb, hon⟩ | hind
        · exfalso
          obtain ⟨j, oj⟩ := p
          obtain ⟨_, hj⟩ := hL.mem j oj (List.mem_append.2 (.inl (List.mem_of_getElem? hp)))
          have := hpre e he hb
          simp only at hon
          subst hon
          have hjs : e.on < listed.size := by
            rw [hL.size]
            have := hahead i o ho e he hb
            omega
          rw [getD_of_lt hjs false true, hj] at this
          cases this
        · exact hind)
      obtain ⟨rs, us, v⟩ := f
      obtain ⟨s1, s2⟩ := q1
      obtain ⟨hd, hs⟩ := s1
      -- what is left behind this step
      have hL2 : Left ops (listed.setIfInBounds i true) (l1 ++ l2) (f1 ++ f2) := by
        have hne : ∀ j o', (j, o') ∈ l1 ++ l2 → j ≠ i := by
          intro j o' hm
          have hasc := hL.asc
          rw [List.pairwise_append] at hasc
          obtain ⟨_, a2, a3⟩ := hasc
          simp only [List.pairwise_cons] at a2
          rcases List.mem_append.1 hm with hm | hm
          · have := a3 _ hm (i, o) (by simp); simp only at this; omega
          · have := a2.1 _ hm; simp only at this; omega
        refine { len := by simp [hl1, hl2], mem := ?_, all := ?_, asc := ?_, free := ?_, size := by simp [hL.size] }
        · intro j o' hm
          obtain ⟨h1, h2⟩ := hL.mem j o' (by rcases List.mem_append.1 hm with hm | hm <;> simp [hm])
          refine ⟨h1, ?_⟩
          rw [Array.getD_eq_getD_getElem?, Array.getElem?_setIfInBounds_ne (fun e => hne j o' hm e.symm), ← Array.getD_eq_getD_getElem?]
          exact h2
        · intro j o' hj hl
          have hji : j ≠ i := by
            rintro rfl
            simp [Array.getD_eq_getD_getElem?, hL.size, hi'] at hl
          rw [Array.getD_eq_getD_getElem?, Array.getElem?_setIfInBounds_ne (fun e => hji e.symm), ← Array.getD_eq_getD_getElem?] at hl
          have := hL.all j o' hj hl
          rcases List.mem_append.1 this with hm | hm
          · exact List.mem_append.2 (.inl hm)
          · cases hm with
            | head => exact absurd rfl hji
            | tail _ hm => exact List.mem_append.2 (.inr hm)
        · have hasc := hL.asc
          exact hasc.sublist (List.Sublist.append_left (List.sublist_cons_self _ _) _)
        · intro x y p q f' g hxy hp hq hf hg
          -- positions with the step taken out
          have up : ∀ {α : Type} {A B : List α} {c : α} {k : Nat} {z : α}, (A ++ B)[k]? = some z → (A ++ c :: B)[if k < A.length then k else k + 1]? = some z := by
            intro α A B c k z hz
            by_cases hk : k < A.length
            · rw [if_pos hk, List.getElem?_append_left hk]
              rwa [List.getElem?_append_left hk] at hz
            · rw [if_neg hk, List.getElem?_append_right (by omega)]
              rw [List.getElem?_append_right (by omega)] at hz
              have : k + 1 - A.length = k - A.length + 1 := by omega
              rw [this, List.getElem?_cons_succ]
              exact hz
          have hp' := up (c := (i, o)) hp
          have hq' := up (c := (i, o)) hq
          have hf' := up (c := ((rs, us, v) : FP)) hf
          have hg' := up (c := ((rs, us, v) : FP)) hg
          rw [hl1] at hf' hg'
          refine hL.free _ _ p q f' g ?_ hp' hq' hf' hg'
          split <;> split <;> omega
      have hU : ∀ b, (nx ≤ b ∧ (b < nx + ops.size → (listed.setIfInBounds i true).getD (b - nx) true = false)) → (nx ≤ b ∧ (b < nx + ops.size → listed.getD (b - nx) true = false)) ∧ b ≠ nx + i := by
        rintro b ⟨h1, h2⟩
        have hne : b ≠ nx + i := by
          rintro rfl
          have := h2 (by omega)
          rw [show nx + i - nx = i by omega] at this
          simp [Array.getD_eq_getD_getElem?, hL.size, hi'] at this
        refine ⟨⟨h1, fun hb => ?_⟩, hne⟩
        have := h2 hb
        rw [Array.getD_eq_getD_getElem?, Array.getElem?_setIfInBounds_ne (by omega), ← Array.getD_eq_getD_getElem?] at this
        exact this
      have next : ∀ F' m' a' w', Rel O w0 F0 M0 D (fun b => (nx ≤ b ∧ (b < nx + ops.size → listed.getD (b - nx) true = false)) ∧ b ≠ nx + i) F' m' sz (putT tm o.dst v) (us ++ st) a' w' →
          wpAnyIn FF 0 P .any ops Q n (listed.setIfInBounds i true) a' w' := by
        intro F' m' a' w' hR
        exact anyOrder hC hW hahead hend n _ (l1 ++ l2) (f1 ++ f2) F' m' _ _ a' w' (by simp at hn ⊢; omega) hL2 (hR.weakU hU) s2 (fun j => (q2 j).trans (e1 j)) (fun j => (q3 j).trans (e2 j))
      have run : (opR P C (nx + i) (ev tm) o.op).ex (look st) rs us v → o.wpIn FF 0 P a w (wpAnyIn FF 0 P .any ops Q n (listed.setIfInBounds i true)) Q := by
        intro hx
        refine op_ok hC o h (id := nx + i) ⟨by omega, fun _ => by rw [show nx + i - nx = i by omega]; exact hlist⟩ hd
          (K := fun v' st' => v' = v ∧ st' = us ++ st) (RM.ex_go _ _ _ _ _ _ hx ⟨rfl, rfl⟩) ?_ FF hW
        rintro F' m' v' st' a' w' hR ⟨rfl, rfl⟩
        exact next F' m' a' w' hR
      unfold wpOpIn
      simp only [ho]
      cases hg : o.guard with
      | none =>
        have hw : Region.wanted o (yielded ops a.tmps) = true := by simp [Region.wanted, hg]
        rw [if_pos hw]
        rw [hg] at hs
        exact run hs
      | some jw =>
        obtain ⟨j, want⟩ := jw
        rw [hg] at hs
        obtain ⟨d, b, d1, d2, d3⟩ := hs
        have hy := yielded_of h d1 d2
        by_cases hbw : b = want
        · have hw : Region.wanted o (yielded ops a.tmps) = true := by simp [Region.wanted, hg, hy, hbw]
          rw [if_pos hw]
          rw [if_pos hbw] at d3
          exact run d3
        · have hw : ¬ Region.wanted o (yielded ops a.tmps) = true := by simp [Region.wanted, hg, hy, hbw]
          rw [if_neg hw]
          rw [if_neg hbw] at d3
          obtain ⟨rfl, rfl, rfl⟩ := d3
          exact ⟨fun f _ => hW.fn f, next F m _ w ((h.weakU fun b hb => hb.1).put hd (c := .top) trivial)⟩

theorem enumL_mem : ∀ {os : List Oper} {i k : Nat} {o : Oper}, (k, o) ∈ enumL i os ↔ i ≤ k ∧ os[k - i]? = some o
  | [], i, k, o => by simp [enumL]
  | o' :: os, i, k, o => by
    simp only [enumL, List.mem_cons, Prod.mk.injEq, enumL_mem (os := os)]
    constructor
    · rintro (⟨rfl, rfl⟩ | ⟨h1, h2⟩)
      · simp
      · refine ⟨by omega, ?_⟩
        rw [show k - i = k - (i + 1) + 1 by omega, List.getElem?_cons_succ]
        exact h2
    · rintro ⟨h1, h2⟩
      by_cases e : k = i
      · subst e; simp at h2; exact .inl ⟨rfl, h2.symm⟩
      · right
        refine ⟨by omega, ?_⟩
        rw [show k - i = k - (i + 1) + 1 by omega, List.getElem?_cons_succ] at h2
        exact h2

theorem enumL_asc : ∀ (os : List Oper) (i : Nat), (enumL i os).Pairwise (fun p q => p.1 < q.1)
  | [], i => by simp [enumL]
  | o :: os, i => by
    simp only [enumL, List.pairwise_cons]
    refine ⟨fun p hp => ?_, enumL_asc os (i + 1)⟩
    obtain ⟨k, o'⟩ := p
    have := (enumL_mem.1 hp).1
    simp only
    omega

/-- A REGION WHOSE ORDER IS OPEN. -/
theorem evOpsD_sound (hC : CtxOK P C) {FF : Fence} (hW : Wide FF) (hm : P.follows .mixedOrders = true) (hah : aheadB ops.toList = true) {O : Nat → Prop} {w0 : World} {F0 : FZ} {M0 : MP} {D : List Deferred} {Q : Exit → Act → World → Prop} {K : TM → ST → Prop} {id : Nat}
    {F : FZ} {m : MP} {tm : TM} {st : ST} {a : Act} {w : World} (h : Rel O w0 F0 M0 D (fun b => nx ≤ b) F m sz tm st a w) (hg : evOpsD P C sz ops nx ops.toList 0 tm st [] K)
    (hn : ∀ F' m' tm' st' a' w', Rel O w0 F0 M0 D (fun b => nx + ops.size ≤ b) F' m' sz tm' st' a' w' → K tm' st' → Q .normal a' w') : (Code.region id ops true).wpIn FF 0 P Q a w := by
  obtain ⟨fs, q1, q2, q3, q4, _⟩ := evOpsD_tr ops.toList 0 tm st [] hg
  refine wpIn_region_any hm ?_
  refine anyOrder hC hW ?_ (fun F' m' a' w' hR => hn F' m' _ _ a' w' hR q3) ops.size _ (enumL 0 ops.toList) fs F m tm st a _ (by rw [enumL_length]; simp) ?_ ?_ q2 (fun _ => rfl) (fun _ => rfl)
  · intro i o ho e he hb
    have := List.all_eq_true.1 hah (i, o) (enumL_mem.2 ⟨by omega, by simpa using ho⟩)
    simp only [Array.all_eq_true_iff_forall_mem] at this
    have := this e he
    simpa [hb] using this
  · refine { len := by rw [enumL_length, q1], mem := ?_, all := ?_, asc := enumL_asc _ _, free := q4, size := by simp }
    · intro i o hm
      obtain ⟨_, h2⟩ := enumL_mem.1 hm
      have h3 : ops[i]? = some o := by simpa using h2
      have hi : i < ops.size := (Array.getElem?_eq_some_iff.1 h3).1
      exact ⟨h3, by simp [Array.getD_eq_getD_getElem?, hi]⟩
    · intro i o ho _
      exact enumL_mem.2 ⟨by omega, by simpa using ho⟩
  · refine Rel.drew (h.weakU fun b hb => hb.1)
end
end Go.Ev
/- A run of the model follows the evaluator: code, functions. -/
set_option linter.unusedVariables false
set_option linter.unusedSimpArgs false
namespace Go.Ev
open Go.RowKit

section
variable {P : Program} {C : FuncId → Option Con}

theorem wide_wide : Wide Fence.wide := ⟨fun _ => trivial, rfl, rfl⟩

theorem awp_sound (hC : CtxOK P C) {FF : Fence} (hW : Wide FF) (hmix : P.follows .mixedOrders = true) {O : Nat → Prop} {w0 : World} {F0 : FZ} {M0 : MP} {D : List Deferred} {sz pins : Nat} (hp : ∀ b y, M0 b = some y → b < pins) : ∀ (c : Code) (Q : AX → TM → ST → Nat → Prop) (QQ : Exit → Act → World → Prop) (F : FZ) (m : MP) (tm : TM) (st : ST) (nx : Nat) (a : Act) (w : World),
    Rel O w0 F0 M0 D (fun b => nx ≤ b) F m sz tm st a w → awp P C sz pins c Q tm st nx → (∀ e a w, Post O w0 F0 M0 D sz Q e a w → QQ e a w) → c.wpIn FF 0 P QQ a w
  | .skip, Q, QQ, F, m, tm, st, nx, a, w, h, hg, hq => wpIn_skip (hq .normal a w ⟨F, m, tm, st, nx, h, hg⟩)
  | .region id ops false, Q, QQ, F, m, tm, st, nx, a, w, h, hg, hq => by
    refine wpIn_region ?_
    have := evOps_sound hC hW (ops := ops) (Q := QQ) ops.toList 0 nx F m tm st a w rfl h hg (by
      intro F' m' tm' st' a' w' hR hK
      exact hq .normal a' w' ⟨F', m', tm', st', _, by simpa using hR, hK⟩)
    simpa using this
  | .seq x y, Q, QQ, F, m, tm, st, nx, a, w, h, hg, hq => by
    refine wpIn_seq ?_
    refine awp_sound hC hW hmix hp x _ _ F m tm st nx a w h hg ?_
    intro e a' w' hpo
    cases e with
    | normal =>
      obtain ⟨F', m', tm', st', nx', hR, hK⟩ := hpo
      exact awp_sound hC hW hmix hp y Q QQ F' m' tm' st' nx' a' w' hR hK hq
    | exit id => exact hq (.exit id) a' w' hpo
    | ret => exact hq .ret a' w' hpo
    | goto l => exact hpo.elim
    | panic c => exact hpo.elim
    | outgrown => exact hpo.elim
  | .cond c x y, Q, QQ, F, m, tm, st, nx, a, w, h, hg, hq => by
    simp only [awp] at hg
    split at hg
    · next b hb =>
      have he := h.ev c
      rw [hb] at he
      have he' : a.eval c = .bool b := he
      obtain ⟨g1, g2⟩ := br_elim hg
      refine wpIn_cond he' ?_
      cases b with
      | true => exact awp_sound hC hW hmix hp x Q QQ F m tm st nx a w h (g1 rfl) hq
      | false => exact awp_sound hC hW hmix hp y Q QQ F m tm st nx a w h (g2 rfl) hq
    · cases hg
  | .block id c, Q, QQ, F, m, tm, st, nx, a, w, h, hg, hq => by
    refine wpIn_block ?_
    refine awp_sound hC hW hmix hp c _ _ F m tm st nx a w h hg ?_
    intro e a' w' hpo
    cases e with
    | normal => exact hq .normal a' w' hpo
    | exit j =>
      obtain ⟨F', m', tm', st', nx', hR, hK⟩ := hpo
      simp only [Exit.inBlock]
      by_cases hj : j = id
      · rw [if_pos hj]
        simp only [hj, decide_true] at hK
        exact hq .normal a' w' ⟨F', m', tm', st', nx', hR, hK⟩
      · rw [if_neg hj]
        simp only [hj, decide_false] at hK
        exact hq (.exit j) a' w' ⟨F', m', tm', st', nx', hR, hK⟩
    | ret => exact hq .ret a' w' hpo
    | goto l => exact hpo.elim
    | panic c => exact hpo.elim
    | outgrown => exact hpo.elim
  | .loop c, Q, QQ, F, m, tm, st, nx, a, w, h, hg, hq => by
    obtain ⟨α, mk, μ, ⟨x0, r0, h0⟩, hround⟩ := hg
    refine wpIn_loop_ghost (fun n a w => ∃ x F m, μ x = n ∧ Rel O w0 F0 M0 D (fun b => (mk x).nx ≤ b) F m sz (mk x).tm (mk x).st a w) (μ x0) ⟨x0, F, _, rfl, h.sub hp h0⟩ ?_
    rintro n a w ⟨x, F, m, rfl, hR⟩
    refine awp_sound hC hW hmix hp c _ _ F m _ _ _ a w hR (hround x) ?_
    intro e a' w' hpo
    cases e with
    | normal =>
      obtain ⟨F', m', tm', st', nx', hR', y, r, hs, hlt⟩ := hpo
      exact ⟨μ y, hlt, y, F', _, rfl, hR'.sub hp hs⟩
    | exit id => exact hq (.exit id) a' w' hpo
    | ret => exact hq .ret a' w' hpo
    | goto l => exact hpo.elim
    | panic c => exact hpo.elim
    | outgrown => exact hpo.elim
  | .exit id, Q, QQ, F, m, tm, st, nx, a, w, h, hg, hq => wpIn_exit (hq (.exit id) a w ⟨F, m, tm, st, nx, h, hg⟩)
  | .ret, Q, QQ, F, m, tm, st, nx, a, w, h, hg, hq => wpIn_ret (hq .ret a w ⟨F, m, tm, st, nx, h, hg⟩)
  | .region id ops true, Q, QQ, F, m, tm, st, nx, a, w, h, hg, hq => by
    simp only [awp] at hg
    split at hg
    · next hah =>
      exact evOpsD_sound hC hW hmix hah h hg fun F' m' tm' st' a' w' hR hK => hq .normal a' w' ⟨F', m', tm', st', _, hR, hK⟩
    · cases hg
  | .rangeFunc _ _ _ _, Q, QQ, F, m, tm, st, nx, a, w, h, hg, hq => by simp [awp] at hg
  | .scope _, Q, QQ, F, m, tm, st, nx, a, w, h, hg, hq => by simp [awp] at hg
  | .label _, Q, QQ, F, m, tm, st, nx, a, w, h, hg, hq => by simp [awp] at hg
  | .goto _, Q, QQ, F, m, tm, st, nx, a, w, h, hg, hq => by simp [awp] at hg
  | .refuse _, Q, QQ, F, m, tm, st, nx, a, w, h, hg, hq => by simp [awp] at hg

theorem RM.go_bind (f : V → RM) (K : V → ST → Prop) : ∀ (r : RM) (st : ST), (r.bind f).go st K ↔ r.go st (fun v st' => (f v).go st' K)
  | .fail, st => Iff.rfl
  | .ret v, st => Iff.rfl
  | .req p k, st => by simp only [RM.bind, RM.go, go_bind f K k]
  | @RM.dec p k _, st => by simp only [RM.bind, RM.go, go_bind f K k]
  | .exi _ p k, st => by simp only [RM.bind, RM.go, fun x => go_bind f K (k x)]
  | .get b k, st => by
    simp only [RM.bind, RM.go]
    split
    · exact go_bind f K _ _
    · exact Iff.rfl
  | .put b x k, st => by simp only [RM.bind, RM.go, go_bind f K k]

/-- What a function's results read as. -/
def resOne (tmps : Array Value) : ResultVar → Sem Value
  | .tmp t => pure (tmps.getD t undef)
  | .cell a t => do loadVar t (← asAddr (tmps.getD a undef))

def packV : List Value → Value
  | [v] => v
  | vs => .tuple vs.toArray

theorem results_eq (fn : Func) (tmps : Array Value) (w : World) (vs : List Value) (h : (fn.results.toList.mapM (resOne tmps)).run P w = .ok vs w) :
    (results fn tmps).run P w = .ok (packV vs) w := by
  have e : fn.results.mapM (resOne tmps) = List.toArray <$> fn.results.toList.mapM (resOne tmps) := by
    conv => lhs; rw [show fn.results = fn.results.toList.toArray by simp]
    rw [List.mapM_toArray]
  show Sem.run P (do let vs ← fn.results.mapM (resOne tmps); pure (if h : vs.size = 1 then vs[0] else .tuple vs)) w = _
  rw [e]
  simp only [Sem.run_bind, Sem.run_map, h, Result.andThen_ok, Sem.run_pure]
  congr 1
  match vs with
  | [] => rfl
  | [v] => rfl
  | v :: v' :: vs => simp [packV]

theorem resR_sound {O : Nat → Prop} {w0 : World} {F0 : FZ} {M0 : MP} {D : List Deferred} {U : Nat → Prop} {m : MP} {sz : Nat} {tm : TM} {a : Act} {w : World} {K : V → ST → Prop} : ∀ (l : List ResultVar) (acc : List V) (vs : List Value) (F : FZ) (st : ST),
    Rel O w0 F0 M0 D U F m sz tm st a w → (resR P tm l acc).go st K → acc.length = vs.length → (∀ (i : Nat) (c : V) (x : Value), acc[i]? = some c → vs[i]? = some x → RV m F w.heap c x) →
    ∃ F' st' vs' c, Rel O w0 F0 M0 D U F' m sz tm st' a w ∧ (l.mapM (resOne a.tmps)).run P w = .ok vs' w ∧ RC F' w.heap c (packV (vs ++ vs')) ∧ K c st'
  | [], acc, vs, F, st, h, hg, hl, hv => by
    simp only [resR] at hg
    match acc, vs, hl with
    | [c], [x], _ =>
      obtain ⟨F1, st1, c1, r1, e1, r2, r3, _⟩ := fz_sound 4 c x _ st F K h (hv 0 c x rfl rfl) hg
      exact ⟨F1, st1, [], c1, r1, by simp, r2, r3⟩
    | [], [], _ =>
      obtain ⟨F1, st1, cs1, r1, e1, r2, r3, _⟩ := mapRM_sound (fz_sound 4) [] [] _ st F K h rfl (by simp) hg
      exact ⟨F1, st1, [], .tup cs1, r1, by simp, ⟨_, rfl, r2⟩, r3⟩
    | c :: d :: acc, x :: y :: vs, hl =>
      obtain ⟨F1, st1, cs1, r1, e1, r2, r3, _⟩ := mapRM_sound (fz_sound 4) (c :: d :: acc) (x :: y :: vs) _ st F K h hl hv hg
      exact ⟨F1, st1, [], .tup cs1, r1, by simp, ⟨(x :: y :: vs).toArray, by simp [packV], by simpa using r2⟩, r3⟩
  | .tmp t :: l, acc, vs, F, st, h, hg, hl, hv => by
    simp only [resR] at hg
    obtain ⟨F1, st1, vs1, c, r1, r2, r3, r4⟩ := resR_sound l (acc ++ [(look tm t).getD .top]) (vs ++ [a.tmps.getD t undef]) F st h hg (by simp [hl]) (by
      intro i c x hc hx
      by_cases hi : i < acc.length
      · rw [List.getElem?_append_left hi] at hc
        rw [List.getElem?_append_left (by omega)] at hx
        exact hv i c x hc hx
      · rw [List.getElem?_append_right (by omega)] at hc
        rw [List.getElem?_append_right (by omega), ← hl] at hx
        cases hi0 : i - acc.length with
        | zero => rw [hi0] at hc hx; simp at hc hx; subst hc hx; have := h.htm t; rwa [Array.getD_eq_getD_getElem?] at this
        | succ n => rw [hi0] at hc; simp at hc)
    refine ⟨F1, st1, a.tmps.getD t undef :: vs1, c, r1, ?_, by simpa using r3, r4⟩
    simp [List.mapM_cons, resOne, r2]
  | .cell p t :: l, acc, vs, F, st, h, hg, hl, hv => by
    simp only [resR] at hg
    rw [RM.go_bind] at hg
    obtain ⟨F0', st0, c0, v0, h0, e0, hrun, hv0, hg⟩ := load_sound (P := P) (C := fun _ => none) h hg
    obtain ⟨F1, st1, vs1, c, r1, r2, r3, r4⟩ := resR_sound l (acc ++ [c0]) (vs ++ [v0]) F0' st0 h0 hg (by simp [hl]) (by
      intro i c x hc hx
      by_cases hi : i < acc.length
      · rw [List.getElem?_append_left hi] at hc
        rw [List.getElem?_append_left (by omega)] at hx
        exact (hv i c x hc hx).mono (fun _ _ e => e) e0 (Keeps.refl _ _)
      · rw [List.getElem?_append_right (by omega)] at hc
        rw [List.getElem?_append_right (by omega), ← hl] at hx
        cases hi0 : i - acc.length with
        | zero => rw [hi0] at hc hx; simp at hc hx; subst hc hx; exact hv0
        | succ n => rw [hi0] at hc; simp at hc)
    refine ⟨F1, st1, v0 :: vs1, c, r1, ?_, by simpa using r3, r4⟩
    have hld : (resOne a.tmps (.cell p t)).run P w = .ok v0 w := by
      have e : a.eval (.tmp p) = a.tmps.getD p undef := rfl
      rw [e] at hrun
      simp only [resOne]
      cases hp : a.tmps.getD p undef with
      | pointer q =>
        rw [hp] at hrun
        cases q with
        | some q => simpa [asAddr, Instr.loadAt, Instr.sureAddr] using hrun
        | none => simp [Instr.loadAt, Instr.sureAddr, Result.andThen] at hrun
      | _ => rw [hp] at hrun; simp [Instr.loadAt, Instr.sureAddr, Result.andThen] at hrun
    simp [List.mapM_cons, hld, r2]

/-- The state at a function's begin. -/
def startT (avs : List V) : TM := (List.range avs.length).zip avs

theorem look_start : ∀ (avs : List V) (k i : Nat), look (((List.range' k avs.length)).zip avs) i = if k ≤ i then avs[i - k]? else none
  | [], k, i => by simp
  | c :: avs, k, i => by
    simp only [List.length_cons, List.range'_succ, List.zip_cons_cons, look_cons, look_start avs (k + 1) i]
    by_cases h : k = i
    · subst h; simp
    · rw [if_neg h]
      by_cases h2 : k + 1 ≤ i
      · rw [if_pos h2, if_pos (by omega)]
        have : i - k = i - (k + 1) + 1 := by omega
        rw [this, List.getElem?_cons_succ]
      · rw [if_neg h2, if_neg (by omega)]

/-- The boxes at a function's begin. -/
def startS (ps : List Bx) : ST := (List.range ps.length).zip ps

theorem look_starts : ∀ (ps : List Bx) (k i : Nat), look (((List.range' k ps.length)).zip ps) i = if k ≤ i then ps[i - k]? else none
  | [], k, i => by simp
  | c :: ps, k, i => by
    simp only [List.length_cons, List.range'_succ, List.zip_cons_cons, look_cons, look_starts ps (k + 1) i]
    by_cases h : k = i
    · subst h; simp
    · rw [if_neg h]
      by_cases h2 : k + 1 ≤ i
      · rw [if_pos h2, if_pos (by omega)]
        have : i - k = i - (k + 1) + 1 := by omega
        rw [this, List.getElem?_cons_succ]
      · rw [if_neg h2, if_neg (by omega)]

theorem look_startS (ps : List Bx) (i : Nat) : look (startS ps) i = ps[i]? := by
  unfold startS
  rw [List.range_eq_range', look_starts ps 0 i]
  simp

/-- The boxes at a function's end. -/
def postB : Nat → List Bx → ST → Prop
  | _, [], _ => True
  | i, p :: ps, st => look st i = some p ∧ postB (i + 1) ps st

theorem postB_get : ∀ {ps : List Bx} {k : Nat} {st : ST}, postB k ps st → ∀ (i : Nat) (p : Bx), ps[i]? = some p → look st (k + i) = some p
  | [], _, _, _, i, p, h => by simp at h
  | q :: ps, k, st, ⟨h1, h2⟩, i, p, h => by
    cases i with
    | zero => simp at h; subst h; exact h1
    | succ i =>
      have := postB_get h2 i p (by simpa using h)
      rwa [show k + 1 + i = k + (i + 1) by omega] at this

/-- A FUNCTION: what the evaluator says of its body holds of its calls. -/
theorem soundV_of_awp (hC : CtxOK P C) (hmix : P.follows .mixedOrders = true) {f : FuncId} {fn : Func} {c : Code} (hf : P.funcs[f]? = some fn) (hb : fn.body = some c) {con : Con}
    (h : ∀ x, con.ok x → (con.enc x).length ≤ fn.ntmps ∧ awp P C fn.ntmps 0 c (fun e tm st nx => match e with
      | .exit _ => False
      | _ => (resR P tm fn.results.toList []).go st fun r _ => r = con.res x) (startT (con.enc x)) [] 0) : SoundV P f con := by
  intro x F w vs hF hv hok
  obtain ⟨hlen, hawp⟩ := h x hok
  generalize havs : con.enc x = avs at hlen hawp hv
  have hl := RCs_length hv
  refine callsIn_wide.1 (callsIn_of_wp (n := 0) hf hb trivial ?_)
  have hR : Rel (fun g => w.heap.size ≤ g) w F (fun _ => none) [] (fun b => 0 ≤ b) F (fun _ => none) fn.ntmps (startT avs) [] { tmps := vs.toArray ++ Array.replicate (fn.ntmps - vs.toArray.size) undef, defers := [] } w := by
    refine { htm := fun i => ?_, hsz := by simp; omega, hde := rfl, hst := fun b x hx => by simp at hx, inj := fun b b' g c c' _ _ hm => (by cases hm), fresh := fun b _ => ⟨rfl, rfl⟩, pin := fun b y e => (by cases e), keep := Keeps.refl _ _, f0 := fun _ _ e => e, f1 := fun _ _ e => .inl e, f2 := hF, mlt := fun b g c hm => (by cases hm), below := Own.refl _ _, hb := fun _ e => e }
    have e : look (startT avs) i = avs[i]? := by
      unfold startT
      rw [List.range_eq_range', look_start avs 0 i]
      simp
    rw [e]
    cases hi : avs[i]? with
    | none => exact trivial
    | some c =>
      have hil : i < avs.length := (List.getElem?_eq_some_iff.1 hi).1
      have hx : vs[i]? = some (vs[i]'(by omega)) := List.getElem?_eq_getElem (by omega)
      have := ((RCs_iff.1 hv).2 i c _ hi hx).1
      simp only [Option.getD_some]
      have e2 : (vs.toArray ++ Array.replicate (fn.ntmps - vs.toArray.size) undef).getD i undef = vs[i]'(by omega) := by
        rw [Array.getD_eq_getD_getElem?, Array.getElem?_append_left (by simp; omega)]
        simp [hx]
      rw [e2]
      exact RV.of_RC this
  refine awp_sound (pins := 0) hC wide_wide hmix (fun b y e => by cases e) c _ _ F _ _ _ 0 _ w hR hawp ?_
  have fin : ∀ (a' : Act) (w' : World) (F' : FZ) (m' : MP) (tm' : TM) (st' : ST) (nx' : Nat), Rel (fun g => w.heap.size ≤ g) w F (fun _ => none) [] (fun b => nx' ≤ b) F' m' fn.ntmps tm' st' a' w' → (resR P tm' fn.results.toList []).go st' (fun r _ => r = con.res x) →
      a'.defers = [] ∧ ∃ v, (results fn a'.tmps).run P w' = .ok v w' ∧ ∃ v_1 F', Ending.returned v = Ending.returned v_1 ∧ Below w.heap.size w w' ∧ (∀ g j, F g j → F' g j) ∧ (∀ g j, F' g j → F g j ∨ w.heap.size ≤ g) ∧ (∀ g j, F' g j → g < w'.heap.size) ∧ RC F' w'.heap (con.res x) v_1 := by
    intro a' w' F' m' tm' st' nx' hR' hg
    obtain ⟨F1, st1, vs1, c1, r1, r2, r3, r4⟩ := resR_sound fn.results.toList [] [] F' st' hR' hg rfl (by simp)
    subst r4
    exact ⟨hR'.hde, _, results_eq fn a'.tmps w' vs1 r2, _, F1, rfl, r1.below.below, r1.f0, r1.f1, r1.f2, r3⟩
  intro e a' w' hpo
  cases e with
  | normal => obtain ⟨F', m', tm', st', nx', hR', hg⟩ := hpo; exact fin a' w' F' m' tm' st' nx' hR' hg
  | ret => obtain ⟨F', m', tm', st', nx', hR', hg⟩ := hpo; exact fin a' w' F' m' tm' st' nx' hR' hg
  | exit id => obtain ⟨F', m', tm', st', nx', hR', hg⟩ := hpo; exact hg.elim
  | goto l => exact hpo.elim
  | panic c => exact hpo.elim
  | outgrown => exact hpo.elim

theorem soundE_of_awp (hC : CtxOK P C) (hmix : P.follows .mixedOrders = true) {f : FuncId} {fn : Func} {c : Code} (hf : P.funcs[f]? = some fn) (hb : fn.body = some c) {con : Con} {e : Eff con.α}
    (h : ∀ x, con.ok x → (con.enc x).length ≤ fn.ntmps ∧ awp P C fn.ntmps (e.pre x).length c (fun en tm st nx => match en with
      | .exit _ => False
      | _ => (resR P tm fn.results.toList []).go st fun r st' => r = con.res x ∧ postB 0 (e.post x) st') (startT (con.enc x)) (startS (e.pre x)) (e.pre x).length) : SoundE P f con e := by
  intro x m F w vs hF hm hl hv hpre hinj hok
  obtain ⟨hlen, hawp⟩ := h x hok
  generalize havs : con.enc x = avs at hlen hawp hv hl
  refine callsIn_wide.1 (callsIn_of_wp (n := 0) hf hb trivial ?_)
  have hR : Rel (Handed m w) w F m [] (fun b => (e.pre x).length ≤ b) F m fn.ntmps (startT avs) (startS (e.pre x)) { tmps := vs.toArray ++ Array.replicate (fn.ntmps - vs.toArray.size) undef, defers := [] } w := by
    refine { htm := fun i => ?_, hsz := by simp; omega, hde := rfl, hst := fun b p hp => hpre b p (by rwa [look_startS] at hp), inj := fun b b' g c c' _ _ h1 h2 => hinj b b' g c c' h1 h2, fresh := fun b hb => ⟨?_, ?_⟩, pin := fun b y e => e, keep := Keeps.refl _ _, f0 := fun _ _ e => e, f1 := fun _ _ e => .inl e, f2 := hF, mlt := fun b g c hm' => (hm b g c hm').2, below := Own.refl _ _, hb := fun _ e => .inr e }
    · have e : look (startT avs) i = avs[i]? := by
        unfold startT
        rw [List.range_eq_range', look_start avs 0 i]
        simp
      rw [e]
      cases hi : avs[i]? with
      | none => exact trivial
      | some c =>
        have hil : i < avs.length := (List.getElem?_eq_some_iff.1 hi).1
        have hx : vs[i]? = some (vs[i]'(by omega)) := List.getElem?_eq_getElem (by omega)
        have := hv i c _ hi hx
        simp only [Option.getD_some]
        have e2 : (vs.toArray ++ Array.replicate (fn.ntmps - vs.toArray.size) undef).getD i undef = vs[i]'(by omega) := by
          rw [Array.getD_eq_getD_getElem?, Array.getElem?_append_left (by simp; omega)]
          simp [hx]
        rw [e2]
        exact this
    · rw [look_startS]; exact List.getElem?_eq_none hb
    · cases hb' : m b with
      | none => rfl
      | some y => have := (hm b y.1 y.2 hb').1; omega
  refine awp_sound (pins := (e.pre x).length) hC wide_wide hmix (fun b y hy => (hm b y.1 y.2 hy).1) c _ _ F _ _ _ _ _ w hR hawp ?_
  have fin : ∀ (a' : Act) (w' : World) (F' : FZ) (m' : MP) (tm' : TM) (st' : ST) (nx' : Nat), Rel (Handed m w) w F m [] (fun b => nx' ≤ b) F' m' fn.ntmps tm' st' a' w' → (resR P tm' fn.results.toList []).go st' (fun r st2 => r = con.res x ∧ postB 0 (e.post x) st2) →
      a'.defers = [] ∧ ∃ v, (results fn a'.tmps).run P w' = .ok v w' ∧ ∃ v_1 F' m', Ending.returned v = Ending.returned v_1 ∧ Own (Handed m w) w w' ∧ Keeps F w.heap w'.heap ∧ (∀ b y, m b = some y → m' b = some y) ∧ (∀ g j, F g j → F' g j) ∧ (∀ g j, F' g j → F g j ∨ Handed m w g) ∧
      (∀ g j, F' g j → g < w'.heap.size) ∧ RC F' w'.heap (con.res x) v_1 ∧ ∀ (i : Nat) (p : Bx), (e.post x)[i]? = some p → RBx (Handed m w) m' F' w'.heap i p := by
    intro a' w' F' m' tm' st' nx' hR' hg
    obtain ⟨F1, st1, vs1, c1, r1, r2, r3, r4, r5⟩ := resR_sound fn.results.toList [] [] F' st' hR' hg rfl (by simp)
    subst r4
    refine ⟨hR'.hde, _, results_eq fn a'.tmps w' vs1 r2, _, F1, m', rfl, r1.below, r1.keep, r1.pin, r1.f0, r1.f1, r1.f2, r3, fun i p hp => ?_⟩
    have := postB_get r5 i p hp
    rw [Nat.zero_add] at this
    exact r1.hst i p this
  intro en a' w' hpo
  cases en with
  | normal => obtain ⟨F', m', tm', st', nx', hR', hg⟩ := hpo; exact fin a' w' F' m' tm' st' nx' hR' hg
  | ret => obtain ⟨F', m', tm', st', nx', hR', hg⟩ := hpo; exact fin a' w' F' m' tm' st' nx' hR' hg
  | exit id => obtain ⟨F', m', tm', st', nx', hR', hg⟩ := hpo; exact hg.elim
  | goto l => exact hpo.elim
  | panic c => exact hpo.elim
  | outgrown => exact hpo.elim

end
end Go.Ev
/- Contracts at hand. -/
set_option linter.unusedVariables false
set_option linter.unusedSimpArgs false
namespace Go.Ev

def ctx : List (FuncId × Con) → FuncId → Option Con
  | [], _ => none
  | (g, c) :: l, f => match Nat.beq g f with
    | true => some c
    | false => ctx l f

theorem ctx_nil {P : Program} : CtxOK P (ctx []) := fun _ _ h => by cases h
theorem ctx_cons {P : Program} {g : FuncId} {c : Con} {l : List (FuncId × Con)} (h : Sound P g c ∧ EntersOK P g) (k : CtxOK P (ctx l)) : CtxOK P (ctx ((g, c) :: l)) := by
  intro f c' hf
  simp only [ctx] at hf
  split at hf
  · next hb => have := Nat.eq_of_beq_eq_true hb; subst this; cases hf; exact h
  · exact k f c' hf

/-- A contract, and that the function is entered. -/
def Has (P : Program) (f : FuncId) (c : Con) : Prop := Sound P f c ∧ EntersOK P f

theorem has_of {P : Program} {C : FuncId → Option Con} (hC : CtxOK P C) (hmix : P.follows .mixedOrders = true) {f : FuncId} {fn : Func} {c : Code} (hf : P.funcs[f]? = some fn) (hb : fn.body = some c)
    (hn : (fn.name == "runtime.NumGoroutine") = false) {con : Con}
    (h : ∀ x, con.ok x → (con.enc x).length ≤ fn.ntmps ∧ awp P C fn.ntmps 0 c (fun e tm st nx => match e with
      | .exit _ => False
      | _ => (resR P tm fn.results.toList []).go st fun r _ => r = con.res x) (startT (con.enc x)) [] 0) (he : con.eff = none := by rfl) : Has P f con :=
  ⟨by simp only [Sound, he]; exact soundV_of_awp hC hmix hf hb h, enters_ok hf hn (by simp [hb])⟩

theorem has_ofE {P : Program} {C : FuncId → Option Con} (hC : CtxOK P C) (hmix : P.follows .mixedOrders = true) {f : FuncId} {fn : Func} {c : Code} (hf : P.funcs[f]? = some fn) (hb : fn.body = some c)
    (hn : (fn.name == "runtime.NumGoroutine") = false) {con : Con} {e : Eff con.α}
    (h : ∀ x, con.ok x → (con.enc x).length ≤ fn.ntmps ∧ awp P C fn.ntmps (e.pre x).length c (fun en tm st nx => match en with
      | .exit _ => False
      | _ => (resR P tm fn.results.toList []).go st fun r st' => r = con.res x ∧ postB 0 (e.post x) st') (startT (con.enc x)) (startS (e.pre x)) (e.pre x).length) (he : con.eff = some e := by rfl) : Has P f con :=
  ⟨by simp only [Sound, he]; exact soundE_of_awp hC hmix hf hb h, enters_ok hf hn (by simp [hb])⟩

/-- What is asked at a function's end. -/
def endV (P : Program) (fn : Func) (r : V) (e : AX) (tm : TM) (st : ST) (nx : Nat) : Prop := match e with
  | .exit _ => False
  | _ => (resR P tm fn.results.toList []).go st fun r' _ => r' = r
def endE (P : Program) (fn : Func) (r : V) (ps : List Bx) (e : AX) (tm : TM) (st : ST) (nx : Nat) : Prop := match e with
  | .exit _ => False
  | _ => (resR P tm fn.results.toList []).go st fun r' st' => r' = r ∧ postB 0 ps st'

/-- A function by its body: to be followed where it is called. -/
def cRun (P : Program) (C : FuncId → Option Con) (fn : Func) (c : Code) : Con := { α := List V × V, enc := Prod.fst, ok := fun x => x.1.length ≤ fn.ntmps ∧ awp P C fn.ntmps 0 c (endV P fn x.2) (startT x.1) [] 0, res := Prod.snd }
theorem has_run {P : Program} {C : FuncId → Option Con} (hC : CtxOK P C) (hmix : P.follows .mixedOrders = true) {f : FuncId} {fn : Func} {c : Code} (hf : P.funcs[f]? = some fn) (hb : fn.body = some c)
    (hn : (fn.name == "runtime.NumGoroutine") = false) : Has P f (cRun P C fn c) := has_of hC hmix hf hb hn fun x hx => hx

structure RunE where
  args : List V
  pre : List Bx
  res : V
  post : List Bx
/-- The same, with boxes handed over. -/
def cRunE (P : Program) (C : FuncId → Option Con) (fn : Func) (c : Code) (own : List Bool) : Con := { α := RunE, enc := RunE.args, ok := fun x => x.args.length ≤ fn.ntmps ∧ awp P C fn.ntmps x.pre.length c (endE P fn x.res x.post) (startT x.args) (startS x.pre) x.pre.length, res := RunE.res, eff := some ⟨own, RunE.pre, RunE.post⟩ }
theorem has_runE {P : Program} {C : FuncId → Option Con} (hC : CtxOK P C) (hmix : P.follows .mixedOrders = true) {f : FuncId} {fn : Func} {c : Code} (hf : P.funcs[f]? = some fn) (hb : fn.body = some c)
    (hn : (fn.name == "runtime.NumGoroutine") = false) (own : List Bool) : Has P f (cRunE P C fn c own) := has_ofE (e := ⟨own, RunE.pre, RunE.post⟩) hC hmix hf hb hn fun x hx => hx

/-- The bool of a value. -/
def isT : V → Bool
  | .v (.bool b) => b
  | _ => false

theorem iEq {a b : Int} {k : IntKind} (h : a = b) : some (V.v (.int k a)) = some (V.v (.int k b)) := by rw [h]
theorem wrap_ok {n : Int} (h : -9223372036854775808 ≤ n) (h' : n ≤ 9223372036854775807) : n = IntKind.i64.wrap n := (IntWalk.i64_in n ⟨h, h'⟩).symm

theorem wrap_succ {k : Nat} (h : k < 9223372036854775807) : ((k + 1 : Nat) : Int) = IntKind.i64.wrap ((k : Int) + 1) := by
  rw [← wrap_ok (n := (k : Int) + 1) (by omega) (by omega)]
  rfl

/-- Neither a box nor a closure. -/
def plain : V → Bool
  | .box _ _ => false
  | .osl _ _ => false
  | .yld _ => false
  | .fn _ _ => false
  | _ => true

theorem ren_caps {caps : List V} (h : caps.all plain = true) (r : List (Nat × Nat)) : caps.mapM (renP r) = some caps := by
  induction caps with
  | nil => rfl
  | cons c caps ih =>
    simp only [List.all_cons, Bool.and_eq_true] at h
    have e : renP r c = some c := by
      have h1 := h.1
      clear ih h
      cases c <;> first | rfl | (simp [plain] at h1)
    simp [List.mapM_cons, e, ih h.2]

theorem ren_fn {g : FuncId} {caps : List V} (h : caps.all plain = true) (r : List (Nat × Nat)) : renV r (.fn g caps) = some (.fn g caps) := by
  simp [renV, ren_caps h]

theorem fzs_plain {k : List V → RM} : ∀ {l : List V}, l.all plain = true → fzs l k = k l := by
  have key : ∀ (l : List V) (k : List V → RM), l.all plain = true → mapRM (fz 4) l k = k l := by
    intro l
    induction l with
    | nil => intro k _; rfl
    | cons c l ih =>
      intro k h
      simp only [List.all_cons, Bool.and_eq_true] at h
      have e : ∀ k, fz 4 c k = k c := by
        intro k
        have h1 := h.1
        clear ih h
        cases c <;> first | rfl | (simp [plain] at h1)
      rw [mapRM, e, ih _ h.2]
  intro l h
  exact key l k h

/-- A call of a closure that is known by its contract alone. -/
theorem go_call {P : Program} {C : FuncId → Option Con} {id : Nat} {ρ : Operand → V} {f : Operand} {args : Array Operand} {ts : Array TypeId} {st : ST} {K : V → ST → Prop} {g : FuncId} {caps avs : List V} {c : Con} {y : c.α}
    (hf : ρ f = .fn g caps) (hc : C g = some c) (hce : c.eff = none) (hp : caps.all plain = true) (ha : args.toList.map ρ = avs) (hap : avs.all plain = true) (he : c.enc y = avs ++ caps) (hok : c.ok y)
    (hk : (RM.retF (c.res y)).go st K) : (opR P C id ρ (.call { callee := .value f, args := args, argTypes := ts })).go st K := by
  simp only [opR, hf, hc, hce, ha]
  rw [fzs_plain (by rw [List.all_append, hap, hp]; rfl)]
  exact ⟨y, ⟨he.symm, hok⟩, hk⟩
end Go.Ev
/- Slices of records; a condition for all elements. -/
set_option linter.unusedVariables false
set_option linter.unusedSimpArgs false
namespace Go.Ev

/-- Numbers of 64 bits. -/
abbrev wr (n : Int) : Int := IntKind.i64.wrap n

/-- The cells of a slice of records. -/
def recs {α : Type} (enc : α → List V) (l : List α) : List V := l.flatMap enc

theorem recs_length {α : Type} {enc : α → List V} {s : Nat} (h : ∀ a, (enc a).length = s) (l : List α) : (recs enc l).length = l.length * s := by
  induction l with
  | nil => simp [recs]
  | cons a l ih => simp only [recs, List.flatMap_cons, List.length_append, h, List.length_cons] at ih ⊢; rw [ih, Nat.add_mul]; omega

theorem recs_drop {α : Type} {enc : α → List V} {s : Nat} (h : ∀ a, (enc a).length = s) (l : List α) (k : Nat) : (recs enc l).drop (k * s) = recs enc (l.drop k) := by
  induction l generalizing k with
  | nil => simp [recs]
  | cons a l ih =>
    cases k with
    | zero => simp
    | succ k =>
      have e : (k + 1) * s = (enc a).length + k * s := by rw [h, Nat.add_mul]; omega
      rw [show recs enc (a :: l) = enc a ++ recs enc l from rfl, e, ← List.drop_drop, List.drop_left, ih]
      rfl

theorem recs_get {α : Type} {enc : α → List V} {s : Nat} (h : ∀ a, (enc a).length = s) (l : List α) (k : Nat) (hk : k < l.length) : ((recs enc l).drop (k * s)).take s = enc l[k] := by
  rw [recs_drop h, List.drop_eq_getElem_cons hk]
  rw [show recs enc (l[k] :: l.drop (k + 1)) = enc l[k] ++ recs enc (l.drop (k + 1)) from rfl, ← h l[k], List.take_left]

theorem recs_pre {α : Type} {enc : α → List V} {s : Nat} (h : ∀ a, (enc a).length = s) {l : List α} {k : Nat} (hk : k < l.length) (hs : 0 < s) :
    0 ≤ (k : Int) ∧ (k : Int) < (l.length : Int) ∧ l.length * s = (recs enc l).length ∧ 0 < s := by
  rw [recs_length h]; omega

theorem recs_load {α : Type} {enc : α → List V} {s : Nat} (h : ∀ a, (enc a).length = s) {l : List α} {k : Nat} (hk : k < l.length) : 0 + s ≤ ((recs enc l).drop (k * s)).length := by
  rw [recs_drop h, recs_length h, List.length_drop]
  have : 1 * s ≤ (l.length - k) * s := Nat.mul_le_mul_right s (by omega)
  omega

theorem all_false {α : Type} {l : List α} {p : α → Bool} {k : Nat} (h : k < l.length) (hp : p l[k] = false) : l.all p = false := by
  cases e : l.all p with
  | false => rfl
  | true => rw [List.all_eq_true] at e; rw [e l[k] (by simp)] at hp; cases hp

structure Every (α : Type) where
  l : List α
  g : FuncId
  caps : List V
  p : α → Bool
def cEvery {α : Type} (enc : α → List V) (C : FuncId → Option Con) : Con := { α := Every α, enc := fun x => [.sl (recs enc x.l) x.l.length, .fn x.g x.caps], ok := fun x => x.l.length ≤ 140737488355328 ∧ x.caps.all plain = true ∧ ∃ c, C x.g = some c ∧ c.eff = none ∧ ∀ e ∈ x.l, ∃ y, c.enc y = .agg (enc e) :: x.caps ∧ c.ok y ∧ c.res y = (V.v (.bool (x.p e))), res := fun x => (V.v (.bool (x.l.all x.p))) }

theorem foldl_take {α β : Type} (f : β → α → β) (b : β) (l : List α) (k : Nat) (h : k < l.length) : (l.take (k + 1)).foldl f b = f ((l.take k).foldl f b) l[k] := by
  rw [List.take_succ_eq_append_getElem h, List.foldl_append]
  rfl


/-- A part of a record. -/
theorem recs_sub {α : Type} {enc : α → List V} {s : Nat} (h : ∀ a, (enc a).length = s) (l : List α) (k o n : Nat) (hk : k < l.length) (hn : o + n ≤ s) :
    (((recs enc l).drop (k * s)).drop o).take n = ((enc l[k]).drop o).take n := by
  rw [← recs_get h l k hk, List.drop_take, List.take_take, Nat.min_eq_left (by omega)]
theorem recs_sub_len {α : Type} {enc : α → List V} {s : Nat} (h : ∀ a, (enc a).length = s) {l : List α} {k o n : Nat} (hk : k < l.length) (hn : o + n ≤ s) :
    0 + n ≤ (((recs enc l).drop (k * s)).drop o).length := by
  have := recs_load (s := s) h hk
  rw [List.length_drop]; omega
theorem recs_set {α : Type} {enc : α → List V} {s : Nat} (h : ∀ a, (enc a).length = s) (l : List α) (k : Nat) (x : α) (hk : k < l.length) :
    (recs enc l).take (k * s) ++ enc x ++ (recs enc l).drop (k * s + s) = recs enc (l.set k x) := by
  have e1 : (recs enc l).take (k * s) = recs enc (l.take k) := by
    have : recs enc l = recs enc (l.take k) ++ recs enc (l.drop k) := by
      simp only [recs, ← List.flatMap_append, List.take_append_drop]
    rw [this, ← show (recs enc (l.take k)).length = k * s by rw [recs_length h, List.length_take, Nat.min_eq_left (by omega)], List.take_left]
  have e2 : k * s + s = (k + 1) * s := by rw [Nat.add_mul]; omega
  rw [e1, e2, recs_drop h, List.set_eq_take_append_cons_drop, if_pos hk]
  simp [recs, List.flatMap_append]
theorem recs_replicate {α : Type} {enc : α → List V} (x : α) (n : Nat) : (List.replicate n (enc x)).flatten = recs enc (List.replicate n x) := by
  induction n with
  | zero => rfl
  | succ n ih => simp [List.replicate_succ, recs] at ih ⊢; exact ih

theorem recs_cell {α : Type} {enc : α → List V} {s : Nat} (h : ∀ a, (enc a).length = s) (l : List α) (k o : Nat) (hk : k < l.length) (ho : o < s) :
    (((((recs enc l).drop (k * s)).drop o)[0]?).getD .top) = (((enc l[k])[o]?).getD .top) := by
  have e := recs_sub h l k o 1 hk (by omega)
  have e1 : ((((recs enc l).drop (k * s)).drop o).take 1)[0]? = ((((enc l[k]).drop o)).take 1)[0]? := by rw [e]
  rw [List.getElem?_take, List.getElem?_take, if_pos (by decide), if_pos (by decide)] at e1
  rw [e1, List.getElem?_drop, Nat.add_zero]

theorem go_cell {α : Type} {enc : α → List V} {s : Nat} (h : ∀ a, (enc a).length = s) {l : List α} {k o : Nat} {v : V} (hk : k < l.length) (ho : o < s) (hv : (((enc l[k])[o]?).getD .top) = v) {d : Decidable (0 < (((recs enc l).drop (k * s)).drop o).length)} {K : V → ST → Prop} {st : ST}
    (hn : (RM.retF v).go st K) : (@RM.dec (0 < (((recs enc l).drop (k * s)).drop o).length) (RM.retF (((((recs enc l).drop (k * s)).drop o)[0]?).getD .top)) d).go st K := by
  refine ⟨?_, ?_⟩
  · have := recs_sub_len (s := s) (o := o) (n := 1) h hk (by omega); omega
  · rw [recs_cell h l k o hk ho, hv]; exact hn
theorem goT_cell {α : Type} {enc : α → List V} {s : Nat} (h : ∀ a, (enc a).length = s) {l : List α} {k o : Nat} {v : V} (hk : k < l.length) (ho : o < s) (hv : (((enc l[k])[o]?).getD .top) = v) {d : Decidable (0 < (((recs enc l).drop (k * s)).drop o).length)} {K : V → ST → List Nat → List Nat → Prop} {st : ST} {rs ws : List Nat}
    (hn : (RM.retF v).goT st rs ws K) : (@RM.dec (0 < (((recs enc l).drop (k * s)).drop o).length) (RM.retF (((((recs enc l).drop (k * s)).drop o)[0]?).getD .top)) d).goT st rs ws K := by
  refine ⟨?_, ?_⟩
  · have := recs_sub_len (s := s) (o := o) (n := 1) h hk (by omega); omega
  · rw [recs_cell h l k o hk ho, hv]; exact hn

theorem goT_cell2 {α : Type} {enc : α → List V} {s : Nat} (h : ∀ a, (enc a).length = s) {l : List α} {k o o2 : Nat} {v : V} (hk : k < l.length) (ho : o + o2 < s) (hv : (((enc l[k])[o + o2]?).getD .top) = v) {d : Decidable (0 < ((((recs enc l).drop (k * s)).drop o).drop o2).length)} {K : V → ST → List Nat → List Nat → Prop} {st : ST} {rs ws : List Nat}
    (hn : (RM.retF v).goT st rs ws K) : (@RM.dec (0 < ((((recs enc l).drop (k * s)).drop o).drop o2).length) (RM.retF ((((((recs enc l).drop (k * s)).drop o).drop o2)[0]?).getD .top)) d).goT st rs ws K := by
  refine ⟨?_, ?_⟩
  · have := recs_sub_len (s := s) (o := o + o2) (n := 1) h hk (by omega); rw [List.drop_drop]; omega
  · rw [List.drop_drop, recs_cell h l k (o + o2) hk ho, hv]; exact hn
theorem go_cell2 {α : Type} {enc : α → List V} {s : Nat} (h : ∀ a, (enc a).length = s) {l : List α} {k o o2 : Nat} {v : V} (hk : k < l.length) (ho : o + o2 < s) (hv : (((enc l[k])[o + o2]?).getD .top) = v) {d : Decidable (0 < ((((recs enc l).drop (k * s)).drop o).drop o2).length)} {K : V → ST → Prop} {st : ST}
    (hn : (RM.retF v).go st K) : (@RM.dec (0 < ((((recs enc l).drop (k * s)).drop o).drop o2).length) (RM.retF ((((((recs enc l).drop (k * s)).drop o).drop o2)[0]?).getD .top)) d).go st K := by
  refine ⟨?_, ?_⟩
  · have := recs_sub_len (s := s) (o := o + o2) (n := 1) h hk (by omega); rw [List.drop_drop]; omega
  · rw [List.drop_drop, recs_cell h l k (o + o2) hk ho, hv]; exact hn
end Go.Ev
/- Steps of the evaluator, one at a time: what follows is not looked into. -/
set_option linter.unusedVariables false
set_option linter.unusedSimpArgs false
namespace Go.Ev

section
variable {P : Program} {C : FuncId → Option Con} {sz pins nx id : Nat} {tm : TM} {st : ST}

theorem go_ret {K : V → ST → Prop} {v : V} (h : K v st) : (RM.ret v).go st K := h
theorem go_req {K : V → ST → Prop} {p : Prop} {d : Decidable p} {k : RM} (hp : p) (h : k.go st K) : (@RM.dec p k d).go st K := ⟨hp, h⟩
theorem go_reqP {K : V → ST → Prop} {p : Prop} {k : RM} (hp : p) (h : k.go st K) : (RM.req p k).go st K := ⟨hp, h⟩
theorem go_get {K : V → ST → Prop} {b : Nat} {k : Bx → RM} {x : Bx} (hx : look st b = some x) (h : (k x).go st K) : (RM.get b k).go st K := by
  simp only [RM.go, hx]; exact h
theorem go_put {K : V → ST → Prop} {b : Nat} {x : Bx} {k : RM} (h : k.go ((b, x) :: st) K) : (RM.put b x k).go st K := h
theorem go_exi {K : V → ST → Prop} {α : Type} {p : α → Prop} {k : α → RM} (x : α) (hp : p x) (h : (k x).go st K) : (RM.exi α p k).go st K := ⟨x, hp, h⟩

theorem ops_nil {all : List Oper} {K : TM → ST → Prop} (h : K tm st) : evOps P C sz all [] id tm st K := h
theorem ops_cons {all : List Oper} {o : Oper} {os : List Oper} {K : TM → ST → Prop} (hd : okDst sz o.dst = true) (hg : o.guard = none)
    (h : (opR P C id (ev tm) o.op).go st fun v st' => evOps P C sz all os (id + 1) (putT tm o.dst v) st' K) : evOps P C sz all (o :: os) id tm st K := by
  unfold evOps
  simp only [hd, hg]
  exact h
theorem ops_take {all : List Oper} {o : Oper} {os : List Oper} {K : TM → ST → Prop} {j d : Nat} {want : Bool} (hd : okDst sz o.dst = true) (hg : o.guard = some (j, want)) (hj : (all[j]?).bind (·.dst) = some d) (hl : (look tm d).getD .top = .v (.bool want))
    (h : (opR P C id (ev tm) o.op).go st fun v st' => evOps P C sz all os (id + 1) (putT tm o.dst v) st' K) : evOps P C sz all (o :: os) id tm st K := by
  unfold evOps
  simp only [hd, hg, hj, hl]
  cases want with
  | true => exact h
  | false => exact h
theorem ops_skip {all : List Oper} {o : Oper} {os : List Oper} {K : TM → ST → Prop} {j d : Nat} {want : Bool} (hd : okDst sz o.dst = true) (hg : o.guard = some (j, want)) (hj : (all[j]?).bind (·.dst) = some d) (hl : (look tm d).getD .top = .v (.bool !want))
    (h : evOps P C sz all os (id + 1) (putT tm o.dst .top) st K) : evOps P C sz all (o :: os) id tm st K := by
  unfold evOps
  simp only [hd, hg, hj, hl]
  cases want with
  | true => exact h
  | false => exact h
/-- An open test. -/
theorem ops_test {all : List Oper} {o : Oper} {os : List Oper} {K : TM → ST → Prop} {j d : Nat} {want b : Bool} (hd : okDst sz o.dst = true) (hg : o.guard = some (j, want)) (hj : (all[j]?).bind (·.dst) = some d) (hl : (look tm d).getD .top = .v (.bool b))
    (h1 : b = want → (opR P C id (ev tm) o.op).go st fun v st' => evOps P C sz all os (id + 1) (putT tm o.dst v) st' K) (h2 : b = (!want) → evOps P C sz all os (id + 1) (putT tm o.dst .top) st K) : evOps P C sz all (o :: os) id tm st K := by
  unfold evOps
  simp only [hd, hg, hj, hl]
  cases want with
  | true => exact br_intro h1 h2
  | false => exact br_intro h2 h1

def seqK (P : Program) (C : FuncId → Option Con) (sz pins : Nat) (b : Code) (Q : AX → TM → ST → Nat → Prop) (e : AX) (tm : TM) (st : ST) (nx : Nat) : Prop := match e with
  | .normal => awp P C sz pins b Q tm st nx
  | e => Q e tm st nx
def blockK (id : Nat) (Q : AX → TM → ST → Nat → Prop) (e : AX) (tm : TM) (st : ST) (nx : Nat) : Prop := match e with
  | .exit j => match decide (j = id) with
    | true => Q .normal tm st nx
    | false => Q (.exit j) tm st nx
  | e => Q e tm st nx
def loopK (pins : Nat) {α : Type} (mk : α → LS) (μ : α → Nat) (x : α) (Q : AX → TM → ST → Nat → Prop) (e : AX) (tm : TM) (st : ST) (nx : Nat) : Prop := match e with
  | .normal => ∃ y r, Sub pins r (mk y).tm (mk y).st (mk y).nx tm st ∧ μ y < μ x
  | e => Q e tm st nx

variable {Q : AX → TM → ST → Nat → Prop} {a b c : Code}
theorem st_skip (h : Q .normal tm st nx) : awp P C sz pins .skip Q tm st nx := h
theorem st_region {i : Nat} {ops : Array Oper} {l : List Oper} {nx' : Nat} (hl : ops.toList = l) (hn : nx + ops.size = nx') (h : evOps P C sz l l nx tm st fun tm' st' => Q .normal tm' st' nx') : awp P C sz pins (.region i ops false) Q tm st nx := by
  subst hl hn
  exact h
theorem st_regionD {i : Nat} {ops : Array Oper} (ha : aheadB ops.toList = true) (h : evOpsD P C sz ops nx ops.toList 0 tm st [] fun tm' st' => Q .normal tm' st' (nx + ops.size)) : awp P C sz pins (.region i ops true) Q tm st nx := by
  simp only [awp, ha]
  exact h
theorem st_seq (h : awp P C sz pins a (seqK P C sz pins b Q) tm st nx) : awp P C sz pins (.seq a b) Q tm st nx := h
theorem st_cond {x : Operand} {p : Bool} (hc : ev tm x = .v (.bool p)) (h1 : p = true → awp P C sz pins a Q tm st nx) (h2 : p = false → awp P C sz pins b Q tm st nx) : awp P C sz pins (.cond x a b) Q tm st nx := by
  simp only [awp, hc]
  exact br_intro h1 h2
theorem st_condT {x : Operand} (hc : ev tm x = .v (.bool true)) (h1 : awp P C sz pins a Q tm st nx) : awp P C sz pins (.cond x a b) Q tm st nx := st_cond hc (fun _ => h1) (fun e => by cases e)
theorem st_condF {x : Operand} (hc : ev tm x = .v (.bool false)) (h1 : awp P C sz pins b Q tm st nx) : awp P C sz pins (.cond x a b) Q tm st nx := st_cond hc (fun e => by cases e) (fun _ => h1)
theorem st_block {i : Nat} (h : awp P C sz pins a (blockK i Q) tm st nx) : awp P C sz pins (.block i a) Q tm st nx := h
theorem st_exit {i : Nat} (h : Q (.exit i) tm st nx) : awp P C sz pins (.exit i) Q tm st nx := h
theorem st_ret (h : Q .ret tm st nx) : awp P C sz pins .ret Q tm st nx := h
theorem st_loop {α : Type} {mk : α → LS} {μ : α → Nat} (h0 : ∃ x r, Sub pins r (mk x).tm (mk x).st (mk x).nx tm st) (h : ∀ x, awp P C sz pins a (loopK pins mk μ x Q) (mk x).tm (mk x).st (mk x).nx) : awp P C sz pins (.loop a) Q tm st nx := ⟨α, mk, μ, h0, h⟩

theorem k_seq (h : awp P C sz pins b Q tm st nx) : seqK P C sz pins b Q .normal tm st nx := h
theorem k_seqX {i : Nat} (h : Q (.exit i) tm st nx) : seqK P C sz pins b Q (.exit i) tm st nx := h
theorem k_seqR (h : Q .ret tm st nx) : seqK P C sz pins b Q .ret tm st nx := h
theorem k_block {i : Nat} (h : Q .normal tm st nx) : blockK i Q .normal tm st nx := h
theorem k_blockX {i : Nat} (h : Q .normal tm st nx) : blockK i Q (.exit i) tm st nx := by simp only [blockK, decide_true]; exact h
theorem k_blockY {i j : Nat} (hj : decide (j = i) = false) (h : Q (.exit j) tm st nx) : blockK i Q (.exit j) tm st nx := by simp only [blockK, hj]; exact h
theorem k_blockR {i : Nat} (h : Q .ret tm st nx) : blockK i Q .ret tm st nx := h
theorem k_loop {α : Type} {mk : α → LS} {μ : α → Nat} {x : α} (y : α) (r : List (Nat × Nat)) (hs : Sub pins r (mk y).tm (mk y).st (mk y).nx tm st) (hl : μ y < μ x) : loopK pins mk μ x Q .normal tm st nx := ⟨y, r, hs, hl⟩
theorem k_loopX {α : Type} {mk : α → LS} {μ : α → Nat} {x : α} {i : Nat} (h : Q (.exit i) tm st nx) : loopK pins mk μ x Q (.exit i) tm st nx := h
theorem k_loopR {α : Type} {mk : α → LS} {μ : α → Nat} {x : α} (h : Q .ret tm st nx) : loopK pins mk μ x Q .ret tm st nx := h

/-! regions whose order is open -/
variable {rs ws : List Nat}
theorem goT_ret {K : V → ST → List Nat → List Nat → Prop} {v : V} (h : K v st rs ws) : (RM.ret v).goT st rs ws K := h
theorem goT_req {K : V → ST → List Nat → List Nat → Prop} {p : Prop} {d : Decidable p} {k : RM} (hp : p) (h : k.goT st rs ws K) : (@RM.dec p k d).goT st rs ws K := ⟨hp, h⟩
theorem goT_reqP {K : V → ST → List Nat → List Nat → Prop} {p : Prop} {k : RM} (hp : p) (h : k.goT st rs ws K) : (RM.req p k).goT st rs ws K := ⟨hp, h⟩
theorem goT_get {K : V → ST → List Nat → List Nat → Prop} {b : Nat} {k : Bx → RM} {x : Bx} (hx : look st b = some x) (h : (k x).goT st (b :: rs) ws K) : (RM.get b k).goT st rs ws K := by
  simp only [RM.goT, hx]; exact h
theorem goT_put {K : V → ST → List Nat → List Nat → Prop} {b : Nat} {x : Bx} {k : RM} (h : k.goT ((b, x) :: st) rs (b :: ws) K) : (RM.put b x k).goT st rs ws K := h
theorem goT_exi {K : V → ST → List Nat → List Nat → Prop} {α : Type} {p : α → Prop} {k : α → RM} (x : α) (hp : p x) (h : (k x).goT st rs ws K) : (RM.exi α p k).goT st rs ws K := ⟨x, hp, h⟩

def dK (P : Program) (C : FuncId → Option Con) (sz : Nat) (ops : Array Oper) (nx : Nat) (o : Oper) (os : List Oper) (i : Nat) (tm : TM) (prev : List (Nat × Oper × List Nat × List Nat)) (K : TM → ST → Prop) (v : V) (st : ST) (rs ws : List Nat) : Prop :=
  match indepB ops o rs ws prev with
  | false => False
  | true => evOpsD P C sz ops nx os (i + 1) (putT tm o.dst v) st ((i, o, rs, ws) :: prev) K

variable {ops : Array Oper} {o : Oper} {os : List Oper} {i : Nat} {prev : List (Nat × Oper × List Nat × List Nat)} {K : TM → ST → Prop}
theorem d_step {v : V} (hi : indepB ops o rs ws prev = true) (h : evOpsD P C sz ops nx os (i + 1) (putT tm o.dst v) st ((i, o, rs, ws) :: prev) K) : dK P C sz ops nx o os i tm prev K v st rs ws := by
  simp only [dK, hi]; exact h
theorem d_nil (h : K tm st) : evOpsD P C sz ops nx [] i tm st prev K := h
theorem d_cons (hd : okDst sz o.dst = true) (hg : o.guard = none) (h : (opR P C (nx + i) (ev tm) o.op).goT st [] [] (dK P C sz ops nx o os i tm prev K)) : evOpsD P C sz ops nx (o :: os) i tm st prev K := by
  unfold evOpsD
  simp only [hd, hg]
  exact h
theorem d_take {j d : Nat} {want : Bool} (hd : okDst sz o.dst = true) (hg : o.guard = some (j, want)) (hj : (ops.toList[j]?).bind (·.dst) = some d) (hl : (look tm d).getD .top = .v (.bool want))
    (h : (opR P C (nx + i) (ev tm) o.op).goT st [] [] (dK P C sz ops nx o os i tm prev K)) : evOpsD P C sz ops nx (o :: os) i tm st prev K := by
  unfold evOpsD
  simp only [hd, hg, hj, hl]
  cases want with
  | true => exact h
  | false => exact h
theorem d_skip {j d : Nat} {want : Bool} (hd : okDst sz o.dst = true) (hg : o.guard = some (j, want)) (hj : (ops.toList[j]?).bind (·.dst) = some d) (hl : (look tm d).getD .top = .v (.bool !want)) (hi : indepB ops o [] [] prev = true)
    (h : evOpsD P C sz ops nx os (i + 1) (putT tm o.dst .top) st ((i, o, [], []) :: prev) K) : evOpsD P C sz ops nx (o :: os) i tm st prev K := by
  unfold evOpsD
  simp only [hd, hg, hj, hl]
  cases want with
  | true => simp only [Bool.not_true, br, hi]; exact h
  | false => simp only [Bool.not_false, br, hi]; exact h
theorem d_test {j d : Nat} {want b : Bool} (hd : okDst sz o.dst = true) (hg : o.guard = some (j, want)) (hj : (ops.toList[j]?).bind (·.dst) = some d) (hl : (look tm d).getD .top = .v (.bool b)) (hi : indepB ops o [] [] prev = true)
    (h1 : b = want → (opR P C (nx + i) (ev tm) o.op).goT st [] [] (dK P C sz ops nx o os i tm prev K)) (h2 : b = (!want) → evOpsD P C sz ops nx os (i + 1) (putT tm o.dst .top) st ((i, o, [], []) :: prev) K) : evOpsD P C sz ops nx (o :: os) i tm st prev K := by
  unfold evOpsD
  simp only [hd, hg, hj, hl]
  cases want with
  | true => exact br_intro h1 (fun e => by simp only [hi]; exact h2 e)
  | false => exact br_intro (fun e => by simp only [hi]; exact h2 e) h1
end
end Go.Ev
