/- A part of the proof of HullSafes. -/
import Derived.Test.YtghleangoiogiaaGreatW7
/- Runs in which some calls are known already. -/
set_option linter.unusedVariables false
set_option linter.unusedSimpArgs false
namespace Go.Ev
open Go.RowKit
noncomputable section

def beqI : Int → Int → Bool
  | .ofNat m, .ofNat n => Nat.beq m n
  | .negSucc m, .negSucc n => Nat.beq m n
  | _, _ => false
theorem beqI_eq {a b : Int} (h : beqI a b = true) : a = b := by
  unfold beqI at h
  split at h
  · rw [Nat.eq_of_beq_eq_true h]
  · rw [Nat.eq_of_beq_eq_true h]
  · cases h
def beqB : Bool → Bool → Bool
  | true, true => true
  | false, false => true
  | _, _ => false
theorem beqB_eq {a b : Bool} (h : beqB a b = true) : a = b := by cases a <;> cases b <;> first | rfl | cases h
mutual
def beqV : V → V → Bool
  | .v (.int j a), c => match c with
    | .v (.int k b) => decide (j = k) && beqI a b
    | _ => false
  | .v (.bool a), c => match c with
    | .v (.bool b) => beqB a b
    | _ => false
  | .v (.slice none 0 0), c => isNil c
  | .agg cs, c => match c with
    | .agg ds => beqL cs ds
    | _ => false
  | .tup cs, c => match c with
    | .tup ds => beqL cs ds
    | _ => false
  | .sl cs n, c => match c with
    | .sl ds k => Nat.beq n k && beqL cs ds
    | _ => false
  | _, _ => false
def beqL : List V → List V → Bool
  | [], l => match l with
    | [] => true
    | _ => false
  | c :: cs, l => match l with
    | d :: ds => beqV c d && beqL cs ds
    | [] => false
end
mutual
theorem beqV_eq : ∀ (a b : V), beqV a b = true → a = b
  | .v (.int j a), c, h => by
    unfold beqV at h
    split at h
    · simp only [Bool.and_eq_true, decide_eq_true_eq] at h
      rw [h.1, beqI_eq h.2]
    · cases h
  | .v (.bool a), c, h => by
    unfold beqV at h
    split at h
    · rw [beqB_eq h]
    · cases h
  | .v (.slice none 0 0), c, h => by
    unfold beqV at h
    exact (isNil_eq h).symm
  | .agg cs, c, h => by
    unfold beqV at h
    split at h
    · rw [beqL_eq cs _ h]
    · cases h
  | .tup cs, c, h => by
    unfold beqV at h
    split at h
    · rw [beqL_eq cs _ h]
    · cases h
  | .sl cs n, c, h => by
    unfold beqV at h
    split at h
    · simp only [Bool.and_eq_true] at h
      rw [Nat.eq_of_beq_eq_true h.1, beqL_eq cs _ h.2]
    · cases h
  | .top, c, h => by unfold beqV at h; cases h
  | .fptr cs, c, h => by unfold beqV at h; cases h
  | .fn g caps, c, h => by unfold beqV at h; cases h
  | .box b o, c, h => by unfold beqV at h; cases h
  | .osl b n, c, h => by unfold beqV at h; cases h
  | .yld b, c, h => by unfold beqV at h; cases h
  | .v x, c, h => by
    unfold beqV at h
    split at h
    · next j a e => cases e; split at h
                    · simp only [Bool.and_eq_true, decide_eq_true_eq] at h
                      rw [h.1, beqI_eq h.2]
                    · cases h
    · next a e => cases e; split at h
                  · rw [beqB_eq h]
                  · cases h
    · next e => cases e; exact (isNil_eq h).symm
    · next e => cases e
    · next e => cases e
    · next e => cases e
    · cases h
theorem beqL_eq : ∀ (a b : List V), beqL a b = true → a = b
  | [], l, h => by
    unfold beqL at h
    split at h
    · rfl
    · cases h
  | c :: cs, l, h => by
    unfold beqL at h
    split at h
    · next d ds =>
      simp only [Bool.and_eq_true] at h
      rw [beqV_eq c d h.1, beqL_eq cs ds h.2]
    · cases h
end

abbrev MemoL := List (FuncId × List V × V)
def memo : MemoL → FuncId → List V → Option V
  | [], _, _ => none
  | (g, args, r) :: l, f, avs => match Nat.beq g f && beqL args avs with
    | true => some r
    | false => memo l f avs
def hasM : MemoL → FuncId → Bool
  | [], _ => false
  | (g, _, _) :: l, f => match Nat.beq g f with
    | true => true
    | false => hasM l f

section
variable {P : Program} {G : XG}
def MOK (P : Program) (l : MemoL) : Prop := ∀ g args r, (g, args, r) ∈ l → Has P g { α := Unit, enc := fun _ => args, ok := fun _ => True, res := fun _ => r }
theorem mok_nil : MOK P [] := fun _ _ _ h => by cases h
theorem mok_cons {g : FuncId} {args : List V} {r : V} {l : MemoL} (h : Has P g { α := Unit, enc := fun _ => args, ok := fun _ => True, res := fun _ => r }) (k : MOK P l) : MOK P ((g, args, r) :: l) := by
  intro g' args' r' hm
  cases hm with
  | head => exact h
  | tail _ hm => exact k _ _ _ hm
theorem memo_mem : ∀ {l : MemoL} {g : FuncId} {avs : List V} {r : V}, memo l g avs = some r → (g, avs, r) ∈ l
  | [], _, _, _, h => by cases h
  | (g', args, r') :: l, g, avs, r, h => by
    unfold memo at h
    split at h
    · next e =>
      simp only [Bool.and_eq_true] at e
      cases h
      rw [Nat.eq_of_beq_eq_true e.1, beqL_eq _ _ e.2]
      exact List.mem_cons_self
    · exact List.mem_cons_of_mem _ (memo_mem h)
theorem hasM_mem : ∀ {l : MemoL} {g : FuncId}, hasM l g = true → ∃ args r, (g, args, r) ∈ l
  | [], _, h => by cases h
  | (g', args, r') :: l, g, h => by
    unfold hasM at h
    split at h
    · next e => rw [← Nat.eq_of_beq_eq_true e]; exact ⟨_, _, List.mem_cons_self⟩
    · obtain ⟨a, r, hm⟩ := hasM_mem h; exact ⟨a, r, List.mem_cons_of_mem _ hm⟩
theorem memo_sound {l : MemoL} (hl : MOK P l) (g : FuncId) : SoundV P g (conX (memo l g)) := by
  rintro ⟨avs, r⟩ F w vs hF hv hok
  exact (hl g avs r (memo_mem hok)).1 () F w vs hF hv trivial

def hM (l : MemoL) (H : XH) : XH := fun c avs st top => match c with
  | .fn g caps => match hasM l g with
    | true => match (fzs (avs ++ caps) fun avs' => match memo l g avs' with
        | some r => .retF r
        | none => .fail).x st with
      | some (r, st') => kV r fun r => kS st' fun st' => some (r, st', top)
      | none => H (.fn g caps) avs st top
    | false => H (.fn g caps) avs st top
  | c => H c avs st top
def xM (l : MemoL) (X : FuncId → Option (List V → Option V)) : FuncId → Option (List V → Option V) := fun g => match hasM l g with
  | true => some (memo l g)
  | false => X g

theorem hM_ok {l : MemoL} (hl : MOK P l) {H : XH} (hH : HOK P H) : HOK P (hM l H) := by
  intro c avs st top r st' top' h
  unfold hM at h
  split at h
  · next g caps =>
    split at h
    · next hg =>
      split at h
      · next r1 st1 h1 =>
        simp only [kV_eq, kS_eq] at h
        cases h
        obtain ⟨a0, r0, hm0⟩ := hasM_mem hg
        refine ⟨(hl g a0 r0 hm0).2, ?_⟩
        intro O F m w vs hR hv
        have hgo := RM.x_go (K := fun v s => v = r ∧ s = st') _ _ _ _ h1 ⟨rfl, rfl⟩
        obtain ⟨F1, st1, avs1, q1, e1, q2, q3, _⟩ := mapRM_sound (fz_sound 4) _ _ _ st F _ hR hv.1 hv.2 hgo
        split at q3
        · next r2 h2 =>
          rw [RM.retF_eq] at q3
          obtain ⟨rfl, rfl⟩ := q3
          refine (memo_sound hl g (avs1, r2) F1 w vs q1.f2 q2 h2).mono ?_
          rintro e w' ⟨v, F', rfl, hbl, p1, p2, p3, p4⟩
          exact ⟨v, F', m, rfl, q1.later hbl p1 p2 p3, RV.of_RC p4⟩
        · cases q3
      · exact hH _ _ _ _ _ _ _ h
    · exact hH _ _ _ _ _ _ _ h
  · exact hH _ _ _ _ _ _ _ h

theorem ctx_m {l : MemoL} (hl : MOK P l) {X : FuncId → Option (List V → Option V)} (hX : CtxOK P (ctxX X)) : CtxOK P (ctxX (xM l X)) := by
  intro g c hc
  unfold ctxX xM at hc
  cases hg : hasM l g with
  | true =>
    simp [hg] at hc
    subst hc
    obtain ⟨a0, r0, hm0⟩ := hasM_mem hg
    exact ⟨memo_sound hl g, (hl g a0 r0 hm0).2⟩
  | false =>
    simp [hg] at hc
    exact hX g c (by unfold ctxX; exact hc)

/-- A call, some calls within it known. -/
def xtop (P : Program) (G : XG) (l : MemoL) (fuel n : Nat) : XH := fun c avs st top => match c with
  | .fn g caps => match G g with
    | some fn => match fn.body with
      | some code => xfn P (hM l (xcall P G fuel n)) (xM l (xpures P G (xcall P G fuel n))) fuel fn code (avs ++ caps) st top
      | none => none
    | none => none
  | _ => none
theorem xtop_ok (hG : GOK P G) (hmix : P.follows .mixedOrders = true) {l : MemoL} (hl : MOK P l) (fuel n : Nat) : HOK P (xtop P G l fuel n) := by
  intro c avs st top r st' top' h
  simp only [xtop] at h
  split at h
  · next g caps =>
    split at h
    · next fn hg =>
      split at h
      · next code hb =>
        have ih := xcall_ok hG hmix fuel n
        exact ⟨(hG g fn hg).2, xfn_ok (hM_ok hl ih) (ctx_m hl (ctx_x hG ih)) hmix (hG g fn hg).1 hb h⟩
      · cases h
    · cases h
  · cases h
theorem has_m (hG : GOK P G) (hmix : P.follows .mixedOrders = true) {l : MemoL} (hl : MOK P l) {fuel n : Nat} {f : FuncId} {args : List V} {r : V} (h : xpure P (xtop P G l fuel n) f args = some r) (hf : (G f).isSome = true) :
    Has P f { α := Unit, enc := fun _ => args, ok := fun _ => True, res := fun _ => r } := by
  obtain ⟨fn, hfn⟩ := Option.isSome_iff_exists.1 hf
  refine ⟨?_, (hG f fn hfn).2⟩
  show SoundV P f _
  intro x F w vs hF hv _
  exact soundV_x (xtop_ok hG hmix hl fuel n) f (args, r) F w vs hF hv h
end
end
end Go.Ev
