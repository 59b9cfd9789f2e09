/- A part of the proof of RiverFlows. -/
import Derived.Test.YtcbkndfnjhfdpaaProg
import Derived.Test.YtcbkndfnjhfdpaaW3
/- Steps of the evaluator with inline calls, one at a time. -/
set_option linter.unusedVariables false
set_option linter.unusedSimpArgs false
namespace Go.Ev

/-- Boxes that a renaming leaves alone. -/
def idr (n : Nat) : List (Nat × Nat) := (List.range n).map fun i => (i, i)
/-- Boxes that a loop keeps as they are. -/
noncomputable def keepB (keep : List Nat) (st : ST) : ST := keep.filterMap fun b => (look st b).map fun x => (b, x)

section
variable {P : Program} {C : FuncId → Option Con} {H : WH} {sz pins nx b0 top : Nat} {tm : TM} {st : ST} {ds : List Nat} {rd : Option Nat}

/-! operations -/
def isV : Op → Bool
  | .call c => match c.callee with
    | .value _ => true
    | _ => false
  | _ => false
theorem wop_plain {op : Op} {K : V → ST → Nat → Prop} (hv : isV op = false) (h : (opA P top (ev tm) op).go st fun v st' => K v st' (top + 1)) : wop P C H top tm st op K := by
  cases op with
  | call c =>
    obtain ⟨callee, args, x⟩ := c
    cases callee with
    | value f => cases hv
    | _ => exact h
  | _ => exact h
theorem wop_con {c : Call} {f : Operand} {g : FuncId} {caps : List V} {con : Con} {K : V → ST → Nat → Prop} (hv : c.callee = .value f) (hf : ev tm f = .fn g caps) (hc : C g = some con) (h : (opR P C top (ev tm) (.call c)).go st fun v st' => K v st' (top + 1)) : wop P C H top tm st (.call c) K := by
  simp only [wop, hv, hf, hc]
  exact h
theorem wop_inl {c : Call} {f : Operand} {g : FuncId} {caps : List V} {K : V → ST → Nat → Prop} (hv : c.callee = .value f) (hf : ev tm f = .fn g caps) (hc : C g = none) (h : H (.fn g caps) (c.args.toList.map (ev tm)) st top K) : wop P C H top tm st (.call c) K := by
  simp only [wop, hv, hf, hc]
  exact h
theorem wop_yld {c : Call} {f : Operand} {b : Nat} {K : V → ST → Nat → Prop} (hv : c.callee = .value f) (hf : ev tm f = .yld b) (h : H (.yld b) (c.args.toList.map (ev tm)) st top K) : wop P C H top tm st (.call c) K := by
  simp only [wop, hv, hf]
  exact h

def wopsK (P : Program) (C : FuncId → Option Con) (H : WH) (sz : Nat) (all os : List Oper) (tm : TM) (dst : Option Nat) (K : TM → ST → Nat → Prop) (v : V) (st : ST) (top : Nat) : Prop := wops P C H sz all os top (putT tm dst v) st K
theorem wops_k {all os : List Oper} {dst : Option Nat} {K : TM → ST → Nat → Prop} {v : V} (h : wops P C H sz all os top (putT tm dst v) st K) : wopsK P C H sz all os tm dst K v st top := h
theorem wops_nil {all : List Oper} {K : TM → ST → Nat → Prop} (h : K tm st top) : wops P C H sz all [] top tm st K := h
theorem wops_cons {all : List Oper} {o : Oper} {os : List Oper} {K : TM → ST → Nat → Prop} (hd : okDst sz o.dst = true) (hg : o.guard = none)
    (h : wop P C H top tm st o.op (wopsK P C H sz all os tm o.dst K)) : wops P C H sz all (o :: os) top tm st K := by
  unfold wops
  simp only [hd, hg]
  exact h
theorem wops_take {all : List Oper} {o : Oper} {os : List Oper} {K : TM → ST → Nat → Prop} {j d : Nat} {want : Bool} (hd : okDst sz o.dst = true) (hg : o.guard = some (j, want)) (hj : (all[j]?).bind (·.dst) = some d) (hl : (look tm d).getD .top = .v (.bool want))
    (h : wop P C H top tm st o.op (wopsK P C H sz all os tm o.dst K)) : wops P C H sz all (o :: os) top tm st K := by
  unfold wops
  simp only [hd, hg, hj, hl]
  cases want with
  | true => exact h
  | false => exact h
theorem wops_skip {all : List Oper} {o : Oper} {os : List Oper} {K : TM → ST → Nat → Prop} {j d : Nat} {want : Bool} (hd : okDst sz o.dst = true) (hg : o.guard = some (j, want)) (hj : (all[j]?).bind (·.dst) = some d) (hl : (look tm d).getD .top = .v (.bool !want))
    (h : wops P C H sz all os (top + 1) (putT tm o.dst vU) st K) : wops P C H sz all (o :: os) top tm st K := by
  unfold wops
  simp only [hd, hg, hj, hl]
  cases want with
  | true => exact h
  | false => exact h
theorem wops_skipU {all : List Oper} {o : Oper} {os : List Oper} {K : TM → ST → Nat → Prop} {j d : Nat} {want : Bool} {arr : Array Value} (hd : okDst sz o.dst = true) (hg : o.guard = some (j, want)) (hj : (all[j]?).bind (·.dst) = some d) (hl : (look tm d).getD .top = .v (.tuple arr))
    (h : wops P C H sz all os (top + 1) (putT tm o.dst vU) st K) : wops P C H sz all (o :: os) top tm st K := by
  unfold wops
  simp only [hd, hg, hj, hl]
  exact h

/-! code -/
def wseqK (P : Program) (C : FuncId → Option Con) (H : WH) (sz pins : Nat) (rd : Option Nat) (b : Code) (Q : AX → XS → Prop) (e : AX) (s : XS) : Prop := match e with
  | .normal => wcode P C H sz pins rd b Q s
  | e => Q e s
def wblockK (id : Nat) (Q : AX → XS → Prop) (e : AX) (s : XS) : Prop := match e with
  | .exit j => match decide (j = id) with
    | true => Q .normal s
    | false => Q (.exit j) s
  | e => Q e s
def wloopK (pins : Nat) (ds : List Nat) (rd : Option Nat) {α : Type} (mk : α → LS) (μ : α → Nat) (x : α) (Q : AX → XS → Prop) (e : AX) (s : XS) : Prop := match e with
  | .normal => s.ds = ds ∧ ∃ y r, SubF pins ds rd r (mk y).tm (mk y).st (mk y).nx s.tm s.st ∧ μ y < μ x
  | e => ∃ n, s.nx ≤ n ∧ Q e ⟨s.tm, s.ds, s.st, n, s.b0⟩
def wfnK (P : Program) (fn : Func) (K : V → ST → Nat → Prop) (e : AX) (s : XS) : Prop := match e with
  | .exit _ => False
  | _ => match xmarks s.ds s.st with
    | none => False
    | some st1 => wres P fn s.tm st1 fun r st2 => K r st2 s.nx
def wbodyK (b : Nat) (K : V → ST → Nat → Prop) (e : AX) (s2 : XS) : Prop := match look s2.st b with
  | some (.loop r2) => match e with
    | .normal => K (.v (.bool true)) ((b, .loop { r2 with state := .ready, pending := none }) :: s2.st) s2.nx
    | .exit i => K (.v (.bool false)) ((b, .loop { r2 with state := .done, pending := some (.exit i) }) :: s2.st) s2.nx
    | .ret => K (.v (.bool false)) ((b, .loop { r2 with state := .done, pending := some .ret }) :: s2.st) s2.nx
  | _ => False
def wasgK (P : Program) (C : FuncId → Option Con) (H : WH) (sz pins b : Nat) (body : Code) (K : V → ST → Nat → Prop) (e : AX) (s1 : XS) : Prop := match e with
  | .normal => match look s1.st b with
    | some (.loop r1) => match isReady r1.state with
      | true => wcode P C H sz pins (some b) body (wbodyK b K) ⟨s1.tm, s1.ds, (b, .loop { r1 with state := .busy }) :: s1.st, s1.nx, s1.b0⟩
      | false => False
    | _ => False
  | _ => False
def wrangeK (b : Nat) (tm : TM) (ds : List Nat) (b0 : Nat) (Q : AX → XS → Prop) (_ : V) (st2 : ST) (nx2 : Nat) : Prop := match look st2 b with
  | some (.loop r2) => match isBusy r2.state with
    | true => False
    | false => match r2.pending with
      | none => Q .normal ⟨tm, ds, (b, .loop { r2 with state := .exhausted }) :: st2, nx2, b0⟩
      | some (.exit i) => Q (.exit i) ⟨tm, ds, (b, .loop { r2 with state := .exhausted }) :: st2, nx2, b0⟩
      | some .ret => Q .ret ⟨tm, ds, (b, .loop { r2 with state := .exhausted }) :: st2, nx2, b0⟩
      | _ => False
  | _ => False

variable {Q : AX → XS → Prop} {a b c : Code}
theorem ws_skip (h : Q .normal ⟨tm, ds, st, nx, b0⟩) : wcode P C H sz pins rd .skip Q ⟨tm, ds, st, nx, b0⟩ := h
def wregK (Q : AX → XS → Prop) (ds : List Nat) (b0 : Nat) (tm : TM) (st : ST) (nx : Nat) : Prop := Q .normal ⟨tm, ds, st, nx, b0⟩
theorem w_reg (h : Q .normal ⟨tm, ds, st, nx, b0⟩) : wregK Q ds b0 tm st nx := h
def wregDK (Q : AX → XS → Prop) (ds : List Nat) (b0 nx : Nat) (tm : TM) (st : ST) : Prop := Q .normal ⟨tm, ds, st, nx, b0⟩
theorem w_regD (h : Q .normal ⟨tm, ds, st, nx, b0⟩) : wregDK Q ds b0 nx tm st := h
theorem ws_region {i : Nat} {ops : Array Oper} {l : List Oper} (hl : ops.toList = l) (h : wops P C H sz l l nx tm st (wregK Q ds b0)) : wcode P C H sz pins rd (.region i ops false) Q ⟨tm, ds, st, nx, b0⟩ := by
  subst hl
  exact h
theorem ws_regionD {i : Nat} {ops : Array Oper} {nx' : Nat} (ha : aheadB ops.toList = true) (hn : nx + ops.size = nx') (h : evOpsD P C sz ops nx ops.toList 0 tm st [] (wregDK Q ds b0 nx')) : wcode P C H sz pins rd (.region i ops true) Q ⟨tm, ds, st, nx, b0⟩ := by
  subst hn
  simp only [wcode, ha]
  exact h
theorem ws_seq (h : wcode P C H sz pins rd a (wseqK P C H sz pins rd b Q) ⟨tm, ds, st, nx, b0⟩) : wcode P C H sz pins rd (.seq a b) Q ⟨tm, ds, st, nx, b0⟩ := h
theorem ws_cond {x : Operand} {p : Bool} (hc : ev tm x = .v (.bool p)) (h1 : p = true → wcode P C H sz pins rd a Q ⟨tm, ds, st, nx, b0⟩) (h2 : p = false → wcode P C H sz pins rd b Q ⟨tm, ds, st, nx, b0⟩) : wcode P C H sz pins rd (.cond x a b) Q ⟨tm, ds, st, nx, b0⟩ := by
  simp only [wcode, hc]
  exact br_intro h1 h2
theorem ws_condT {x : Operand} (hc : ev tm x = .v (.bool true)) (h1 : wcode P C H sz pins rd a Q ⟨tm, ds, st, nx, b0⟩) : wcode P C H sz pins rd (.cond x a b) Q ⟨tm, ds, st, nx, b0⟩ := ws_cond hc (fun _ => h1) (fun e => by cases e)
theorem ws_condF {x : Operand} (hc : ev tm x = .v (.bool false)) (h1 : wcode P C H sz pins rd b Q ⟨tm, ds, st, nx, b0⟩) : wcode P C H sz pins rd (.cond x a b) Q ⟨tm, ds, st, nx, b0⟩ := ws_cond hc (fun e => by cases e) (fun _ => h1)
theorem ws_block {i : Nat} (h : wcode P C H sz pins rd a (wblockK i Q) ⟨tm, ds, st, nx, b0⟩) : wcode P C H sz pins rd (.block i a) Q ⟨tm, ds, st, nx, b0⟩ := h
theorem ws_exit {i : Nat} (h : Q (.exit i) ⟨tm, ds, st, nx, b0⟩) : wcode P C H sz pins rd (.exit i) Q ⟨tm, ds, st, nx, b0⟩ := h
theorem ws_ret (h : Q .ret ⟨tm, ds, st, nx, b0⟩) : wcode P C H sz pins rd .ret Q ⟨tm, ds, st, nx, b0⟩ := h
theorem ws_loop {α : Type} {mk : α → LS} {μ : α → Nat} (h0 : ∃ x r, SubF pins ds rd r (mk x).tm (mk x).st (mk x).nx tm st) (h : ∀ x, wcode P C H sz pins rd a (wloopK pins ds rd mk μ x Q) ⟨(mk x).tm, ds, (mk x).st, (mk x).nx, b0⟩) : wcode P C H sz pins rd (.loop a) Q ⟨tm, ds, st, nx, b0⟩ := ⟨α, mk, μ, h0, h⟩
/-- A range over a function, outside rounds and within. -/
theorem ws_range0 {f : Operand} {ps : Array Tmp} {asg body : Code} {g : FuncId} {caps : List V} (hf : ev tm f = .fn g caps)
    (h : H (.fn g caps) [.yld nx] ((nx, .loop ⟨tm, sz, ps, asg, body, .ready, none⟩) :: (nx + 1, .mark true) :: st) (nx + 2) (wrangeK nx tm ((nx + 1) :: ds) b0 Q)) : wcode P C H sz pins none (.rangeFunc f ps asg body) Q ⟨tm, ds, st, nx, b0⟩ := by
  simp only [wcode, xenter, hf]
  exact h
theorem ws_range1 {rb : Nat} {f : Operand} {ps : Array Tmp} {asg body : Code} {g : FuncId} {caps : List V} {r0 : LoopX} (hf : ev tm f = .fn g caps) (hr : look st rb = some (.loop r0))
    (h : H (.fn g caps) [.yld nx] ((nx, .loop ⟨tm, sz, ps, asg, body, .ready, none⟩) :: st) (nx + 1) (wrangeK nx tm ds b0 Q)) : wcode P C H sz pins (some rb) (.rangeFunc f ps asg body) Q ⟨tm, ds, st, nx, b0⟩ := by
  simp only [wcode, xenter, hf, hr]
  exact h

theorem kw_seq (h : wcode P C H sz pins rd b Q ⟨tm, ds, st, nx, b0⟩) : wseqK P C H sz pins rd b Q .normal ⟨tm, ds, st, nx, b0⟩ := h
theorem kw_seqX {i : Nat} (h : Q (.exit i) ⟨tm, ds, st, nx, b0⟩) : wseqK P C H sz pins rd b Q (.exit i) ⟨tm, ds, st, nx, b0⟩ := h
theorem kw_seqR (h : Q .ret ⟨tm, ds, st, nx, b0⟩) : wseqK P C H sz pins rd b Q .ret ⟨tm, ds, st, nx, b0⟩ := h
theorem kw_block {i : Nat} (h : Q .normal ⟨tm, ds, st, nx, b0⟩) : wblockK i Q .normal ⟨tm, ds, st, nx, b0⟩ := h
theorem kw_blockX {i : Nat} (h : Q .normal ⟨tm, ds, st, nx, b0⟩) : wblockK i Q (.exit i) ⟨tm, ds, st, nx, b0⟩ := by simp only [wblockK, decide_true]; exact h
theorem kw_blockY {i j : Nat} (hj : decide (j = i) = false) (h : Q (.exit j) ⟨tm, ds, st, nx, b0⟩) : wblockK i Q (.exit j) ⟨tm, ds, st, nx, b0⟩ := by simp only [wblockK, hj]; exact h
theorem kw_blockR {i : Nat} (h : Q .ret ⟨tm, ds, st, nx, b0⟩) : wblockK i Q .ret ⟨tm, ds, st, nx, b0⟩ := h
theorem kw_loopX {α : Type} {mk : α → LS} {μ : α → Nat} {x : α} {i : Nat} (n : Nat) (hn : nx ≤ n) (h : Q (.exit i) ⟨tm, ds, st, n, b0⟩) {ds' : List Nat} : wloopK pins ds' rd mk μ x Q (.exit i) ⟨tm, ds, st, nx, b0⟩ := ⟨n, hn, h⟩
theorem kw_loopR {α : Type} {mk : α → LS} {μ : α → Nat} {x : α} (n : Nat) (hn : nx ≤ n) (h : Q .ret ⟨tm, ds, st, n, b0⟩) {ds' : List Nat} : wloopK pins ds' rd mk μ x Q .ret ⟨tm, ds, st, nx, b0⟩ := ⟨n, hn, h⟩

theorem kw_fn1 {fn : Func} {K : V → ST → Nat → Prop} {t : Nat} {st1 : ST} {e : AX} (he : (match e with | .exit _ => false | _ => true) = true) (hr : fn.results.toList = [.tmp t]) (hm : xmarks ds st = some st1) (h : (RM.retF ((look tm t).getD .top)).go st1 fun r st2 => K r st2 nx) : wfnK P fn K e ⟨tm, ds, st, nx, b0⟩ := by
  rw [RM.retF_eq] at h
  cases e with
  | exit i => cases he
  | normal => simp only [wfnK, hm, wres, hr]; exact h
  | ret => simp only [wfnK, hm, wres, hr]; exact h
theorem kw_fnC {fn : Func} {K : V → ST → Nat → Prop} {t a : Nat} {st1 : ST} {e : AX} (he : (match e with | .exit _ => false | _ => true) = true) (hr : fn.results.toList = [.cell a t]) (hm : xmarks ds st = some st1) (h : (loadR P t (ev tm (.tmp a))).go st1 fun r st2 => K r st2 nx) : wfnK P fn K e ⟨tm, ds, st, nx, b0⟩ := by
  cases e with
  | exit i => cases he
  | normal => simp only [wfnK, hm, wres, hr]; exact h
  | ret => simp only [wfnK, hm, wres, hr]; exact h
def sing : List ResultVar → Bool
  | [_] => true
  | _ => false
theorem kw_fnN {fn : Func} {K : V → ST → Nat → Prop} {l : List ResultVar} {st1 : ST} {e : AX} (he : (match e with | .exit _ => false | _ => true) = true) (hr : fn.results.toList = l) (hs : sing l = false) (hm : xmarks ds st = some st1) (h : (resR P tm l []).go st1 fun r st2 => K r st2 nx) : wfnK P fn K e ⟨tm, ds, st, nx, b0⟩ := by
  have hw : wres P fn tm st1 fun r st2 => K r st2 nx := by
    unfold wres
    rw [hr]
    split
    · cases hs
    · cases hs
    · exact h
  cases e with
  | exit i => cases he
  | normal => simp only [wfnK, hm]; exact hw
  | ret => simp only [wfnK, hm]; exact hw

/-! calls that are followed -/
variable {G : XG} {n : Nat}
theorem w_fn {g : FuncId} {caps avs : List V} {fn : Func} {code : Code} {K : V → ST → Nat → Prop} (hg : G g = some fn) (hb : fn.body = some code) (hl : Nat.ble (avs ++ caps).length fn.ntmps = true) (h : wcode P C (wcall P C G n) fn.ntmps top none code (wfnK P fn K) ⟨startT (avs ++ caps), [], st, top, top⟩) : wcall P C G (n + 1) (.fn g caps) avs st top K := by
  simp only [wcall, hg, hb, wfn, hl]
  exact h
theorem w_yld {b : Nat} {avs : List V} {r : LoopX} {K : V → ST → Nat → Prop} (hl : look st b = some (.loop r)) (hr : isReady r.state = true) (ha : (Nat.beq avs.length r.ps.size && r.ps.toList.all fun p => Nat.ble (p + 1) r.sz) = true)
    (h : wcode P C (wcall P C G n) r.sz top (some b) r.assign (wasgK P C (wcall P C G n) r.sz top b r.body K) ⟨(r.ps.toList.zip avs).foldl (fun t p => p :: t) r.tm, [], st, top, top⟩) : wcall P C G (n + 1) (.yld b) avs st top K := by
  simp only [wcall, wround, hl, hr, ha]
  exact h
theorem w_asg {bx : Nat} {body : Code} {K : V → ST → Nat → Prop} {r1 : LoopX} (hl : look st bx = some (.loop r1)) (hr : isReady r1.state = true) (h : wcode P C H sz pins (some bx) body (wbodyK bx K) ⟨tm, ds, (bx, .loop { r1 with state := .busy }) :: st, nx, b0⟩) : wasgK P C H sz pins bx body K .normal ⟨tm, ds, st, nx, b0⟩ := by
  simp only [wasgK, hl, hr]
  exact h
theorem w_bodyN {bx : Nat} {K : V → ST → Nat → Prop} {r2 : LoopX} (hl : look st bx = some (.loop r2)) (h : K (.v (.bool true)) ((bx, .loop { r2 with state := .ready, pending := none }) :: st) nx) : wbodyK bx K .normal ⟨tm, ds, st, nx, b0⟩ := by
  simp only [wbodyK, hl]
  exact h
theorem w_bodyX {bx i : Nat} {K : V → ST → Nat → Prop} {r2 : LoopX} (hl : look st bx = some (.loop r2)) (h : K (.v (.bool false)) ((bx, .loop { r2 with state := .done, pending := some (.exit i) }) :: st) nx) : wbodyK bx K (.exit i) ⟨tm, ds, st, nx, b0⟩ := by
  simp only [wbodyK, hl]
  exact h
theorem w_bodyR {bx : Nat} {K : V → ST → Nat → Prop} {r2 : LoopX} (hl : look st bx = some (.loop r2)) (h : K (.v (.bool false)) ((bx, .loop { r2 with state := .done, pending := some .ret }) :: st) nx) : wbodyK bx K .ret ⟨tm, ds, st, nx, b0⟩ := by
  simp only [wbodyK, hl]
  exact h
theorem w_rangeN {bx : Nat} {r2 : LoopX} {v : V} (hl : look st bx = some (.loop r2)) (hb : isBusy r2.state = false) (hp : r2.pending = none) (h : Q .normal ⟨tm, ds, (bx, .loop { r2 with state := .exhausted }) :: st, nx, b0⟩) : wrangeK bx tm ds b0 Q v st nx := by
  obtain ⟨t, z, q, a', b', z2, pn⟩ := r2
  simp only at hp hb
  subst hp
  simp only [wrangeK, hl, hb]
  exact h
theorem w_rangeX {bx i : Nat} {r2 : LoopX} {v : V} (hl : look st bx = some (.loop r2)) (hb : isBusy r2.state = false) (hp : r2.pending = some (.exit i)) (h : Q (.exit i) ⟨tm, ds, (bx, .loop { r2 with state := .exhausted }) :: st, nx, b0⟩) : wrangeK bx tm ds b0 Q v st nx := by
  obtain ⟨t, z, q, a', b', z2, pn⟩ := r2
  simp only at hp hb
  subst hp
  simp only [wrangeK, hl, hb]
  exact h
theorem w_rangeR {bx : Nat} {r2 : LoopX} {v : V} (hl : look st bx = some (.loop r2)) (hb : isBusy r2.state = false) (hp : r2.pending = some .ret) (h : Q .ret ⟨tm, ds, (bx, .loop { r2 with state := .exhausted }) :: st, nx, b0⟩) : wrangeK bx tm ds b0 Q v st nx := by
  obtain ⟨t, z, q, a', b', z2, pn⟩ := r2
  simp only at hp hb
  subst hp
  simp only [wrangeK, hl, hb]
  exact h

theorem ws_condTH {x : Operand} {p : Bool} (hp : p = true) (hc : ev tm x = .v (.bool p)) (h1 : wcode P C H sz pins rd a Q ⟨tm, ds, st, nx, b0⟩) : wcode P C H sz pins rd (.cond x a b) Q ⟨tm, ds, st, nx, b0⟩ := ws_condT (by rw [hc, hp]) h1
theorem ws_condFH {x : Operand} {p : Bool} (hp : p = false) (hc : ev tm x = .v (.bool p)) (h1 : wcode P C H sz pins rd b Q ⟨tm, ds, st, nx, b0⟩) : wcode P C H sz pins rd (.cond x a b) Q ⟨tm, ds, st, nx, b0⟩ := ws_condF (by rw [hc, hp]) h1

/-! loops -/
section loops
variable {S E R Γ : Type}
def atK (L : LoopD S E Γ) (kp : ST) (s : S) (g : Γ) : LS := ⟨(L.at_ s g).tm, (L.at_ s g).st ++ kp, (L.at_ s g).nx⟩
theorem ws_loopF {L : LoopD S E Γ} {K : E → Option R} {r : R} {s0 : S} {c : Code} (hF : (loopC L.step s0).bind K = some r) (g0 : Γ) (ren : List (Nat × Nat)) (keep : List Nat) (hs : SubF pins ds rd ren (atK L (keepB keep st) s0 g0).tm (atK L (keepB keep st) s0 g0).st (atK L (keepB keep st) s0 g0).nx tm st)
    (h : ∀ (n : Nat) (s : S) (g : Γ) (x : LoopA L.step K r Γ), x.1.1 = n + 1 → (L.step s).bind (nextF L.step K n) = some r → wcode P C H sz pins rd c (wloopK pins ds rd (fun y : LoopA L.step K r Γ => atK L (keepB keep st) y.1.2.1 y.1.2.2) (fun y => y.1.1) x Q) ⟨(L.at_ s g).tm, ds, (L.at_ s g).st ++ keepB keep st, (L.at_ s g).nx, b0⟩) : wcode P C H sz pins rd (.loop c) Q ⟨tm, ds, st, nx, b0⟩ := by
  obtain ⟨e, he, hk⟩ : ∃ e, loopC L.step s0 = some e ∧ K e = some r := by
    cases hl : loopC L.step s0 with
    | none => rw [hl] at hF; cases hF
    | some e => rw [hl] at hF; exact ⟨e, rfl, hF⟩
  obtain ⟨n, hn⟩ := loopC_ex he
  refine ws_loop (α := LoopA L.step K r Γ) (mk := fun y => atK L (keepB keep st) y.1.2.1 y.1.2.2) (μ := fun y => y.1.1) ⟨⟨(n, s0, g0), by rw [hn]; exact hk⟩, ren, hs⟩ ?_
  rintro ⟨⟨n, s, g⟩, hx⟩
  cases n with
  | zero => cases hx
  | succ n =>
    refine h n s g ⟨(n + 1, s, g), hx⟩ rfl ?_
    simp only [loopN] at hx
    cases hs : L.step s with
    | none => rw [hs] at hx; cases hx
    | some o =>
      rw [hs] at hx
      cases o with
      | inl s' => exact hx
      | inr e => exact hx
theorem kw_loopF {L : LoopD S E Γ} {K : E → Option R} {r : R} {x : LoopA L.step K r Γ} {n : Nat} {s' : S} {kp : ST} (hF : nextF L.step K n (.inl s') = some r) (hx : x.1.1 = n + 1) (g' : Γ) (ren : List (Nat × Nat))
    (hs : SubF pins ds rd ren (atK L kp s' g').tm (atK L kp s' g').st (atK L kp s' g').nx tm st) : wloopK pins ds rd (fun y : LoopA L.step K r Γ => atK L kp y.1.2.1 y.1.2.2) (fun y => y.1.1) x Q .normal ⟨tm, ds, st, nx, b0⟩ :=
  ⟨rfl, (⟨(n, s', g'), hF⟩ : LoopA L.step K r Γ), ren, hs, by show n < x.1.1; omega⟩
end loops
end
/-- The boxes at a loop's head. -/
theorem sW {p : Prop} (c : p := by (repeat (first | exact trivial | refine And.intro (Or.inl ⟨_, _, rfl, rfl, rfl⟩) ?_ | refine And.intro (Or.inr (Or.inl rfl)) ?_ | refine And.intro (Or.inr (Or.inr (Or.inl ⟨_, _, _, _, rfl, rfl, rfl, sC⟩))) ?_ | refine And.intro (Or.inr (Or.inr (Or.inr ⟨rfl, rfl, trivial⟩))) ?_ | refine And.intro (Or.inr (Or.inr (Or.inr ⟨rfl, rfl, rfl⟩))) ?_))) : p := c
/-- All steps that no fact is needed for. -/
theorem sw1 {p q : Prop} (h : q) (c : q → p := by (intro h; (repeat (first | ((with_reducible refine go_ret ?_)) | ((with_reducible refine go_put ?_); (conv => arg 1; whnf)) | ((with_reducible apply go_get); exact rfl; (conv => arg 1; whnf)) | ((with_reducible refine go_req ?_ ?_); exact (of_decide_eq_true rfl); (conv => arg 1; whnf)) | ((with_reducible refine go_req ?_ ?_); exact trivial; (conv => arg 1; whnf)) | ((with_reducible refine go_req ?_ ?_); exact rfl; (conv => arg 1; whnf)) | ((with_reducible refine go_req ?_ ?_); exact (rlen (by intro _; rfl) _); (conv => arg 1; whnf)) | ((with_reducible refine go_req ?_ ?_); exact ⟨rlen (by intro _; rfl) _, by decide⟩; (conv => arg 1; whnf)) | ((with_reducible refine go_reqP ?_ ?_); exact rfl; (conv => arg 1; whnf)) | ((with_reducible refine ops_nil ?_)) | ((with_reducible refine ops_cons ?_ ?_ ?_); exact rfl; exact rfl; (conv => arg 1; whnf)) | ((with_reducible apply ops_take); exact rfl; exact rfl; exact rfl; exact rfl; (conv => arg 1; whnf)) | ((with_reducible apply ops_skip); exact rfl; exact rfl; exact rfl; exact rfl) | ((with_reducible apply ops_skipU); exact rfl; exact rfl; exact rfl; exact rfl) | ((with_reducible refine goT_ret ?_)) | ((with_reducible refine goT_put ?_); (conv => arg 1; whnf)) | ((with_reducible apply goT_get); exact rfl; (conv => arg 1; whnf)) | ((with_reducible refine goT_req ?_ ?_); exact (of_decide_eq_true rfl); (conv => arg 1; whnf)) | ((with_reducible refine goT_req ?_ ?_); exact trivial; (conv => arg 1; whnf)) | ((with_reducible refine goT_req ?_ ?_); exact rfl; (conv => arg 1; whnf)) | ((with_reducible refine goT_req ?_ ?_); exact (rlen (by intro _; rfl) _); (conv => arg 1; whnf)) | ((with_reducible refine goT_req ?_ ?_); exact ⟨rlen (by intro _; rfl) _, by decide⟩; (conv => arg 1; whnf)) | ((with_reducible refine goT_reqP ?_ ?_); exact rfl; (conv => arg 1; whnf)) | ((with_reducible refine d_step ?_ ?_); kernel_rfl) | ((with_reducible refine d_nil ?_)) | ((with_reducible refine d_cons ?_ ?_ ?_); exact rfl; exact rfl; (conv => arg 1; whnf)) | ((conv => arg 6; whnf); (with_reducible refine d_cons ?_ ?_ ?_); exact rfl; exact rfl; (conv => arg 1; whnf)) | ((conv => arg 5; whnf); (with_reducible refine ops_cons ?_ ?_ ?_); exact rfl; exact rfl; (conv => arg 1; whnf)) | ((with_reducible apply d_take); exact rfl; exact rfl; exact rfl; exact rfl; (conv => arg 1; whnf)) | ((with_reducible apply d_skip); exact rfl; exact rfl; exact rfl; exact rfl; (first | exact rfl | kernel_rfl)) | ((with_reducible apply d_skipU); exact rfl; exact rfl; exact rfl; exact rfl; (first | exact rfl | kernel_rfl)) | ((conv => arg 6; whnf); (with_reducible apply d_take); exact rfl; exact rfl; exact rfl; exact rfl; (conv => arg 1; whnf)) | ((conv => arg 6; whnf); (with_reducible apply d_skip); exact rfl; exact rfl; exact rfl; exact rfl; (first | exact rfl | kernel_rfl)) | ((with_reducible refine st_regionD ?_ ?_); kernel_rfl; (conv => arg 6; whnf)) | ((with_reducible refine st_seq ?_)) | ((with_reducible refine st_region rfl rfl ?_); (conv => arg 5; whnf)) | ((with_reducible refine st_block ?_)) | ((with_reducible refine st_skip ?_)) | ((with_reducible refine st_exit ?_)) | ((with_reducible refine st_ret ?_)) | ((with_reducible refine k_seq ?_)) | ((with_reducible refine k_seqX ?_)) | ((with_reducible refine k_seqR ?_)) | ((with_reducible refine k_block ?_)) | ((with_reducible refine k_blockX ?_)) | ((with_reducible refine k_blockY ?_ ?_); exact rfl) | ((with_reducible refine k_blockR ?_)) | ((with_reducible refine k_loopX ?_)) | ((with_reducible refine k_loopR ?_)) | ((with_reducible refine st_condT ?_ ?_); exact rfl) | ((with_reducible refine st_condF ?_ ?_); exact rfl) | ((with_reducible refine wops_k ?_)) | ((with_reducible refine w_reg ?_)) | ((with_reducible refine w_regD ?_)) | ((with_reducible refine wops_nil ?_)) | ((with_reducible refine wops_cons ?_ ?_ ?_); exact rfl; exact rfl) | ((conv => arg 5; whnf); (with_reducible refine wops_cons ?_ ?_ ?_); exact rfl; exact rfl) | ((with_reducible apply wops_take); exact rfl; exact rfl; exact rfl; exact rfl) | ((with_reducible apply wops_skip); exact rfl; exact rfl; exact rfl; exact rfl) | ((with_reducible apply wops_skipU); exact rfl; exact rfl; exact rfl; exact rfl) | ((with_reducible refine wop_plain ?_ ?_); exact rfl; (conv => arg 1; whnf)) | ((with_reducible apply wop_con); exact rfl; exact rfl; exact rfl; (conv => arg 1; whnf)) | ((with_reducible apply wop_inl); exact rfl; exact rfl; exact rfl) | ((with_reducible apply wop_yld); exact rfl; exact rfl) | ((with_reducible refine ws_seq ?_)) | ((with_reducible refine ws_block ?_)) | ((with_reducible refine ws_skip ?_)) | ((with_reducible refine ws_exit ?_)) | ((with_reducible refine ws_ret ?_)) | ((with_reducible refine ws_region rfl ?_); (conv => arg 5; whnf)) | ((with_reducible refine ws_regionD ?_ rfl ?_); kernel_rfl; (conv => arg 6; whnf)) | ((with_reducible refine kw_seq ?_)) | ((with_reducible refine kw_seqX ?_)) | ((with_reducible refine kw_seqR ?_)) | ((with_reducible refine kw_block ?_)) | ((with_reducible refine kw_blockX ?_)) | ((with_reducible refine kw_blockY ?_ ?_); exact rfl) | ((with_reducible refine kw_blockR ?_)) | ((with_reducible refine ws_condT ?_ ?_); exact rfl) | ((with_reducible refine ws_condF ?_ ?_); exact rfl) | ((with_reducible apply ws_range0); exact rfl) | ((with_reducible apply ws_range1); exact rfl; exact rfl) | ((with_reducible apply w_fn); exact rfl; exact rfl; exact rfl) | ((with_reducible apply w_yld); exact rfl; exact rfl; exact rfl; (conv => arg 7; whnf); (conv => arg 9; whnf)) | ((with_reducible apply w_asg); exact rfl; exact rfl) | ((with_reducible apply w_bodyN); exact rfl) | ((with_reducible apply w_bodyX); exact rfl) | ((with_reducible apply w_bodyR); exact rfl) | ((with_reducible apply w_rangeN); exact rfl; exact rfl; exact rfl) | ((with_reducible apply w_rangeX); exact rfl; exact rfl; exact rfl) | ((with_reducible apply w_rangeR); exact rfl; exact rfl; exact rfl) | ((with_reducible apply kw_fn1); exact rfl; exact rfl; exact rfl; (conv => arg 1; whnf)) | ((with_reducible apply kw_fnC); exact rfl; exact rfl; exact rfl; (conv => arg 1; whnf)) | ((with_reducible apply kw_fnN); exact rfl; exact rfl; exact rfl; exact rfl; (conv => arg 1; whnf)))); exact h)) : p := c h

theorem hasIF {P : Program} {C : FuncId → Option Con} {G : XG} (hC : CtxOK P C) (hG : GOK P G) (hmix : P.follows .mixedOrders = true) (n : Nat) {f : FuncId} {fn : Func} {c : Code} (hf : P.funcs[f]? = some fn) (hb : fn.body = some c)
    (hn : (fn.name == "runtime.NumGoroutine") = false) {α β : Type} {F : α → Option β} {enc : α → List V} {er : β → V}
    (h : ∀ x r, (F x).bind some = some r → Nat.ble (enc x).length fn.ntmps = true ∧ wcode P C (wcall P C G n) fn.ntmps 0 none c (wfnK P fn (endI (er r))) ⟨startT (enc x), [], [], 0, 0⟩) : Has P f (conF F enc er) :=
  hasI hC hG hmix n hf hb hn fun x r hF => by
    obtain ⟨h1, h2⟩ := h x r hF
    unfold wfn
    rw [h1]
    exact h2
end Go.Ev
/- Elements of arrays, by an index that is not written: by cases. -/
namespace Go.Ev
theorem ib_ok {j : Int} {c n : Nat} (e : j = (c : Int)) (hc : decide (c < n) = true) : 0 ≤ j ∧ j < (n : Int) := by
  have := of_decide_eq_true hc
  omega
theorem ib_nat {j : Int} {c : Nat} (e : j = (c : Int)) : j.toNat = c := by omega
variable {P : Program} {st : ST} {rs ws : List Nat}
theorem o_ib {K : V → ST → Prop} {j : Int} {c n b off size : Nat} {d : Decidable (0 ≤ j ∧ j < (n : Int))} (e : j = (c : Int)) (hc : decide (c < n) = true)
    (h : (RM.ret (.box b (off + c * size))).go st K) : (@RM.dec (0 ≤ j ∧ j < (n : Int)) (.ret (.box b (off + j.toNat * size))) d).go st K :=
  go_req (ib_ok e hc) (by rw [ib_nat e]; exact h)
theorem o_ibT {K : V → ST → List Nat → List Nat → Prop} {j : Int} {c n b off size : Nat} {d : Decidable (0 ≤ j ∧ j < (n : Int))} (e : j = (c : Int)) (hc : decide (c < n) = true)
    (h : (RM.ret (.box b (off + c * size))).goT st rs ws K) : (@RM.dec (0 ≤ j ∧ j < (n : Int)) (.ret (.box b (off + j.toNat * size))) d).goT st rs ws K :=
  goT_req (ib_ok e hc) (by rw [ib_nat e]; exact h)
theorem o_ix {K : V → ST → Prop} {j : Int} {c n size : Nat} {t : TypeId} {cs : List V} {f : V → RM} {d : Decidable (0 ≤ j ∧ j < (n : Int))} (e : j = (c : Int)) (hc : decide (c < n) = true)
    (h : (takeR P t cs (c * size) f).go st K) : (@RM.dec (0 ≤ j ∧ j < (n : Int)) (takeR P t cs (j.toNat * size) f) d).go st K :=
  go_req (ib_ok e hc) (by rw [ib_nat e]; exact h)
theorem o_ixT {K : V → ST → List Nat → List Nat → Prop} {j : Int} {c n size : Nat} {t : TypeId} {cs : List V} {f : V → RM} {d : Decidable (0 ≤ j ∧ j < (n : Int))} (e : j = (c : Int)) (hc : decide (c < n) = true)
    (h : (takeR P t cs (c * size) f).goT st rs ws K) : (@RM.dec (0 ≤ j ∧ j < (n : Int)) (takeR P t cs (j.toNat * size) f) d).goT st rs ws K :=
  goT_req (ib_ok e hc) (by rw [ib_nat e]; exact h)
/-! stores at two offsets -/
theorem o_stBT {α : Type} {enc : α → List V} {s o n : Nat} {l r : List α} {j : Int} {a x : α} {new : List V} {b : Nat} {e : TypeId} {d : Decidable (new.length = n ∧ j.toNat * s + o + n ≤ (recs enc l).length ∧ 0 ≤ j.toNat * s + o)} {K : V → ST → List Nat → List Nat → Prop} (hi : idx? l j = some a) (h : set? l j x = some r) (he : ∀ a, (enc a).length = s) (ho : o + n ≤ s)
    (hn : new.length = n) (hb : (enc a).take o ++ new ++ (enc a).drop (o + n) = enc x)
    (hk : (RM.ret .top).goT ((b, .row e s (recs enc r) 0) :: st) rs (b :: ws) K) : (@RM.dec (new.length = n ∧ j.toNat * s + o + n ≤ (recs enc l).length ∧ 0 ≤ j.toNat * s + o) (.put b (.row e s ((recs enc l).take (j.toNat * s + o) ++ new ++ (recs enc l).drop (j.toNat * s + o + n)) 0) (.ret .top)) d).goT st rs ws K := by
  obtain ⟨h1, h2⟩ := set_eq (o := o) hi h he ho hn hb
  rw [h2]; exact ⟨h1, hk⟩
theorem o_stC {α : Type} {enc : α → List V} {s o o2 n : Nat} {l r : List α} {j : Int} {a x : α} {new : List V} {b : Nat} {e : TypeId} {d : Decidable (new.length = n ∧ j.toNat * s + o + o2 + n ≤ (recs enc l).length ∧ 0 ≤ j.toNat * s + o + o2)} {K : V → ST → Prop} (hi : idx? l j = some a) (h : set? l j x = some r) (he : ∀ a, (enc a).length = s) (ho : (o + o2) + n ≤ s)
    (hn : new.length = n) (hb : (enc a).take (o + o2) ++ new ++ (enc a).drop ((o + o2) + n) = enc x)
    (hk : (RM.ret .top).go ((b, .row e s (recs enc r) 0) :: st) K) : (@RM.dec (new.length = n ∧ j.toNat * s + o + o2 + n ≤ (recs enc l).length ∧ 0 ≤ j.toNat * s + o + o2) (.put b (.row e s ((recs enc l).take (j.toNat * s + o + o2) ++ new ++ (recs enc l).drop (j.toNat * s + o + o2 + n)) 0) (.ret .top)) d).go st K := by
  obtain ⟨h1, h2⟩ := set_eq (o := (o + o2)) hi h he ho hn hb
  simp only [← Nat.add_assoc] at h1 h2
  rw [h2]; exact ⟨h1, hk⟩
theorem o_stCT {α : Type} {enc : α → List V} {s o o2 n : Nat} {l r : List α} {j : Int} {a x : α} {new : List V} {b : Nat} {e : TypeId} {d : Decidable (new.length = n ∧ j.toNat * s + o + o2 + n ≤ (recs enc l).length ∧ 0 ≤ j.toNat * s + o + o2)} {K : V → ST → List Nat → List Nat → Prop} (hi : idx? l j = some a) (h : set? l j x = some r) (he : ∀ a, (enc a).length = s) (ho : (o + o2) + n ≤ s)
    (hn : new.length = n) (hb : (enc a).take (o + o2) ++ new ++ (enc a).drop ((o + o2) + n) = enc x)
    (hk : (RM.ret .top).goT ((b, .row e s (recs enc r) 0) :: st) rs (b :: ws) K) : (@RM.dec (new.length = n ∧ j.toNat * s + o + o2 + n ≤ (recs enc l).length ∧ 0 ≤ j.toNat * s + o + o2) (.put b (.row e s ((recs enc l).take (j.toNat * s + o + o2) ++ new ++ (recs enc l).drop (j.toNat * s + o + o2 + n)) 0) (.ret .top)) d).goT st rs ws K := by
  obtain ⟨h1, h2⟩ := set_eq (o := (o + o2)) hi h he ho hn hb
  simp only [← Nat.add_assoc] at h1 h2
  rw [h2]; exact ⟨h1, hk⟩
/-- An element of a list that has been written to: it is as long as it was. -/
theorem oidx_len {α : Type} {l l0 : List α} {j : Int} {a : α} {s : Nat} (h : idx? l j = some a) (hl : l.length = l0.length) (hs : 0 < s) : 0 ≤ j ∧ j < (l0.length : Int) ∧ 0 < s := by
  have := oidx_ok h hs
  rw [hl] at this
  exact this
end Go.Ev
/- The functions do what is said. -/
set_option linter.unusedVariables false
set_option linter.unusedSimpArgs false
namespace Go.Ev
open Go.Proofs
set_option maxHeartbeats 8000000
set_option maxRecDepth 100000
theorem mix : Try.prog.follows .mixedOrders = true := by kernel_rfl
end Go.Ev
/- Lists of lists: what the steps are over data. -/
set_option linter.unusedVariables false
namespace Go.Ev
/-- What follows a loop that is left. -/
theorem e_next {S E R : Type} {step : S → Option (S ⊕ E)} {K : E → Option R} {n : Nat} {e : E} {r : R} (h : nextF step K n (Sum.inr e) = some r) : K e = some r := h
theorem eS_len {α : Type} (enc : α → List V) (l : List α) : (eS enc l).length = 1 := rfl
theorem nest_rep {α : Type} (enc : α → List V) (n : Nat) : List.replicate n (V.sl [] 0) = recs (eS enc) (List.replicate n ([] : List α)) := by
  induction n with
  | zero => rfl
  | succ n ih => rw [List.replicate_succ, ih, List.replicate_succ]; rfl
theorem nest_map {α : Type} (enc : α → List V) (l : List (List α)) : recs (eS enc) l = l.map fun y => V.sl (recs enc y) y.length := by
  induction l with
  | nil => rfl
  | cons y l ih => rw [List.map_cons, ← ih]; rfl
theorem nest_get {α : Type} {enc : α → List V} {ls : List (List α)} {j : Int} {a : List α} (h : idx? ls j = some a) : (recs (eS enc) ls)[j.toNat * 1]? = some (.sl (recs enc a) a.length) := by
  obtain ⟨h0, h1, hj, hx⟩ := idx?_lt h
  rw [Nat.mul_one, nest_map, List.getElem?_map, List.getElem?_eq_getElem hj, hx]
  rfl
theorem nest_set {α : Type} {enc : α → List V} {ls r : List (List α)} {j : Int} {x : List α} (h : set? ls j x = some r) : (recs (eS enc) ls).set (j.toNat * 1) (.sl (recs enc x) x.length) = recs (eS enc) r ∧ j.toNat * 1 < (recs (eS enc) ls).length := by
  unfold set? at h
  split at h
  · next hj =>
    cases h
    rw [Nat.mul_one, recs_length (eS_len enc), Nat.mul_one]
    refine ⟨?_, by omega⟩
    rw [nest_map, nest_map, List.map_set]
  · cases h
theorem o_mkn {α : Type} {enc : α → List V} {k : Nat} {n : Int} {r : List (List α)} {id s2 : Nat} {e e2 : TypeId} {st : ST} {d : Decidable (0 ≤ n ∧ n = n ∧ n * k ≤ 281474976710656 ∧ 0 < 1 ∧ n ≤ maxLen)} {K : V → ST → Prop} (h : mk? ([] : List α) n k = some r)
    (hk : (RM.ret (.osl id r.length)).go ((id, .nest e e2 s2 (recs (eS enc) r) none) :: st) K) : (@RM.dec (0 ≤ n ∧ n = n ∧ n * k ≤ 281474976710656 ∧ 0 < 1 ∧ n ≤ maxLen) (.put id (.nest e e2 s2 (List.replicate n.toNat (.sl [] 0)) none) (.ret (.osl id n.toNat))) d).go st K := by
  obtain ⟨h1, h2, h3⟩ := mk_eq (enc := eS enc) (s := 1) h Nat.one_pos
  refine ⟨h1, ?_⟩
  unfold mk? at h
  split at h
  · cases h
    rw [nest_rep enc]
    rw [List.length_replicate] at hk
    exact hk
  · cases h
theorem o_mknT {α : Type} {enc : α → List V} {k : Nat} {n : Int} {r : List (List α)} {id s2 : Nat} {e e2 : TypeId} {st : ST} {rs ws : List Nat} {d : Decidable (0 ≤ n ∧ n = n ∧ n * k ≤ 281474976710656 ∧ 0 < 1 ∧ n ≤ maxLen)} {K : V → ST → List Nat → List Nat → Prop} (h : mk? ([] : List α) n k = some r)
    (hk : (RM.ret (.osl id r.length)).goT ((id, .nest e e2 s2 (recs (eS enc) r) none) :: st) rs (id :: ws) K) : (@RM.dec (0 ≤ n ∧ n = n ∧ n * k ≤ 281474976710656 ∧ 0 < 1 ∧ n ≤ maxLen) (.put id (.nest e e2 s2 (List.replicate n.toNat (.sl [] 0)) none) (.ret (.osl id n.toNat))) d).goT st rs ws K := by
  obtain ⟨h1, h2, h3⟩ := mk_eq (enc := eS enc) (s := 1) h Nat.one_pos
  refine ⟨h1, ?_⟩
  unfold mk? at h
  split at h
  · cases h
    rw [nest_rep enc]
    rw [List.length_replicate] at hk
    exact hk
  · cases h
theorem o_tk {α : Type} {enc : α → List V} {ls : List (List α)} {j : Int} {a : List α} {st : ST} {k : List V × Nat → RM} {K : V → ST → Prop} (h : idx? ls j = some a) (hk : (k (recs enc a, a.length)).go st K) :
    (RM.exi (List V × Nat) (fun y => (recs (eS enc) ls)[j.toNat * 1]? = some (.sl y.1 y.2)) k).go st K := ⟨_, nest_get h, hk⟩
theorem o_tkT {α : Type} {enc : α → List V} {ls : List (List α)} {j : Int} {a : List α} {st : ST} {rs ws : List Nat} {k : List V × Nat → RM} {K : V → ST → List Nat → List Nat → Prop} (h : idx? ls j = some a) (hk : (k (recs enc a, a.length)).goT st rs ws K) :
    (RM.exi (List V × Nat) (fun y => (recs (eS enc) ls)[j.toNat * 1]? = some (.sl y.1 y.2)) k).goT st rs ws K := ⟨_, nest_get h, hk⟩
theorem o_gv {α : Type} {enc : α → List V} {s2 : Nat} {ls r : List (List α)} {x : List α} {j : Int} {b b2 n : Nat} {e e2 : TypeId} {hole : Option Nat} {st : ST} {d : Decidable (n = 1 ∧ x.length * s2 = (recs enc x).length ∧ 0 < s2 ∧ j.toNat * 1 < (recs (eS enc) ls).length ∧ (hole = none ∨ hole = some (j.toNat * 1)) ∧ b2 ≠ b)}
    {K : V → ST → Prop} (h : set? ls j x = some r) (he : ∀ a, (enc a).length = s2) (hs : 0 < s2) (hn : n = 1) (hh : hole = none ∨ hole = some (j.toNat * 1)) (hb : b2 ≠ b) (hk : (RM.ret .top).go ((b, .nest e e2 s2 (recs (eS enc) r) none) :: (b2, .dead) :: st) K) :
    (@RM.dec (n = 1 ∧ x.length * s2 = (recs enc x).length ∧ 0 < s2 ∧ j.toNat * 1 < (recs (eS enc) ls).length ∧ (hole = none ∨ hole = some (j.toNat * 1)) ∧ b2 ≠ b) (.put b2 .dead (.put b (.nest e e2 s2 ((recs (eS enc) ls).set (j.toNat * 1) (.sl (recs enc x) x.length)) none) (.ret .top))) d).go st K := by
  obtain ⟨h1, h2⟩ := nest_set (enc := enc) h
  rw [h1]
  exact ⟨⟨hn, (recs_length he x).symm, hs, h2, hh, hb⟩, hk⟩
theorem o_gvT {α : Type} {enc : α → List V} {s2 : Nat} {ls r : List (List α)} {x : List α} {j : Int} {b b2 n : Nat} {e e2 : TypeId} {hole : Option Nat} {st : ST} {rs ws : List Nat} {d : Decidable (n = 1 ∧ x.length * s2 = (recs enc x).length ∧ 0 < s2 ∧ j.toNat * 1 < (recs (eS enc) ls).length ∧ (hole = none ∨ hole = some (j.toNat * 1)) ∧ b2 ≠ b)}
    {K : V → ST → List Nat → List Nat → Prop} (h : set? ls j x = some r) (he : ∀ a, (enc a).length = s2) (hs : 0 < s2) (hn : n = 1) (hh : hole = none ∨ hole = some (j.toNat * 1)) (hb : b2 ≠ b) (hk : (RM.ret .top).goT ((b, .nest e e2 s2 (recs (eS enc) r) none) :: (b2, .dead) :: st) rs (b :: b2 :: ws) K) :
    (@RM.dec (n = 1 ∧ x.length * s2 = (recs enc x).length ∧ 0 < s2 ∧ j.toNat * 1 < (recs (eS enc) ls).length ∧ (hole = none ∨ hole = some (j.toNat * 1)) ∧ b2 ≠ b) (.put b2 .dead (.put b (.nest e e2 s2 ((recs (eS enc) ls).set (j.toNat * 1) (.sl (recs enc x) x.length)) none) (.ret .top))) d).goT st rs ws K := by
  obtain ⟨h1, h2⟩ := nest_set (enc := enc) h
  rw [h1]
  exact ⟨⟨hn, (recs_length he x).symm, hs, h2, hh, hb⟩, hk⟩
end Go.Ev
