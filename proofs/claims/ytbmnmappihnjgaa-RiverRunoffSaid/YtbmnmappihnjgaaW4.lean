/- A part of the proof of RiverMelts. -/
import Derived.RangeFuncLeaves
import Derived.RangeFuncNested
import Derived.Test.YtbmnmappihnjgaaProg
import Derived.Test.YtbmnmappihnjgaaW3
set_option linter.unusedVariables false
set_option linter.unusedSimpArgs false
namespace Go.Ev
open Go.Proofs
set_option maxHeartbeats 400000
set_option maxRecDepth 100000

theorem recs_cell2 {α : Type} {enc : α → List V} {s : Nat} (h : ∀ a, (enc a).length = s) (l : List α) (k o p : Nat) (hk : k < l.length) (ho : o + p < s) :
    (((((recs enc l).drop (k * s)).drop o).drop p)[0]?).getD .top = ((enc l[k])[o + p]?).getD .top := by
  rw [← recs_get h l k hk, List.getElem?_take, if_pos ho]
  simp only [List.getElem?_drop]
  rw [show o + (p + 0) = o + p by omega]
theorem recs_cell2_len {α : Type} {enc : α → List V} {s : Nat} (h : ∀ a, (enc a).length = s) {l : List α} {k o p : Nat} (hk : k < l.length) (ho : o + p < s) :
    0 < ((((recs enc l).drop (k * s)).drop o).drop p).length := by
  have := recs_load (s := s) h hk
  rw [List.length_drop, List.length_drop]; omega

theorem ints_getD (l : List Int) (k : Nat) (h : k < l.length) : ((((ints l).drop (k * 1))[0]?).getD .top) = (V.v (.int .i64 ((l[k]?).getD 0))) := by rw [ints_get l k h]; simp [h]
theorem ints_snoc (l : List Int) (x : Int) : ints l ++ [(V.v (.int .i64 x))] = ints (l ++ [x]) := by simp [ints]
theorem ints_len (l : List Int) : (ints l).length = l.length := by simp [ints]

def los (l : List Sky) : List Int := l.map fun s => s.heat.lo
def his (l : List Sky) : List Int := l.map fun s => s.heat.hi
def refLeast (c : Cat) (l : List Sky) (i : Nat) (s : Sky) : Int := ((meltsGo c.melt c.snow.lo (his (l.take i) ++ [s.heat.lo]))[i]?).getD 0
def refMost (c : Cat) (l : List Sky) (i : Nat) (s : Sky) : Int := ((meltsGo c.melt c.snow.hi (los (l.take i) ++ [s.heat.hi]))[i]?).getD 0
def refOut (c : Cat) (l : List Sky) (i : Nat) (s : Sky) : Bd :=
  ⟨flw (wr (wr (c.area * wr (s.rain.lo + refLeast c l i s)) * c.percent)) 10, clw (wr (wr (c.area * wr (s.rain.hi + refMost c l i s)) * c.percent)) 10⟩
def refRun (c : Cat) (l : List Sky) : List Bd := l.mapIdx (refOut c l)
theorem refRun_length (c : Cat) (l : List Sky) : (refRun c l).length = l.length := by simp [refRun]
theorem refRun_take (c : Cat) (l : List Sky) (i : Nat) (h : i < l.length) : (refRun c l).take (i + 1) = (refRun c l).take i ++ [refOut c l i l[i]] := by
  rw [List.take_succ_eq_append_getElem (by rw [refRun_length]; exact h)]
  simp [refRun]
def cRefRunoff : Con := { α := Cat × List Sky, enc := fun (c, l) => [.agg (eCat c), .sl (recs eSky l) l.length], ok := fun (_, l) => l.length ≤ 100000, res := fun (c, l) => .sl (recs eBd (refRun c l)) l.length }
theorem h28 : Has Try.prog 29 cRefRunoff := by
  refine has_of (ctx_cons h70 (ctx_cons h71 (ctx_cons h72 ctx_nil))) mix Try.func29 rfl (by kernel_rfl) ?_
  rintro ⟨c, l⟩ hok
  have hlen : l.length ≤ 100000 := hok
  refine ⟨of_decide_eq_true rfl, ?_⟩
  (repeat (first | ((with_reducible refine go_ret ?_)) | ((with_reducible refine go_put ?_); (conv => arg 1; whnf)) | ((with_reducible apply go_get); exact rfl; (conv => arg 1; whnf)) | ((with_reducible refine go_req ?_ ?_); exact (of_decide_eq_true rfl); (conv => arg 1; whnf)) | ((with_reducible refine go_req ?_ ?_); exact trivial; (conv => arg 1; whnf)) | ((with_reducible refine go_req ?_ ?_); exact rfl; (conv => arg 1; whnf)) | ((with_reducible refine go_reqP ?_ ?_); exact rfl; (conv => arg 1; whnf)) | ((with_reducible refine ops_nil ?_)) | ((with_reducible refine ops_cons ?_ ?_ ?_); exact rfl; exact rfl; (conv => arg 1; whnf)) | ((with_reducible apply ops_take); exact rfl; exact rfl; exact rfl; exact rfl; (conv => arg 1; whnf)) | ((with_reducible apply ops_skip); exact rfl; exact rfl; exact rfl; exact rfl) | ((with_reducible refine goT_ret ?_)) | ((with_reducible refine goT_put ?_); (conv => arg 1; whnf)) | ((with_reducible apply goT_get); exact rfl; (conv => arg 1; whnf)) | ((with_reducible refine goT_req ?_ ?_); exact (of_decide_eq_true rfl); (conv => arg 1; whnf)) | ((with_reducible refine goT_req ?_ ?_); exact trivial; (conv => arg 1; whnf)) | ((with_reducible refine goT_req ?_ ?_); exact rfl; (conv => arg 1; whnf)) | ((with_reducible refine goT_reqP ?_ ?_); exact rfl; (conv => arg 1; whnf)) | ((with_reducible refine d_step ?_ ?_); kernel_rfl) | ((with_reducible refine d_nil ?_)) | ((with_reducible refine d_cons ?_ ?_ ?_); exact rfl; exact rfl; (conv => arg 1; whnf)) | ((conv => arg 6; whnf); (with_reducible refine d_cons ?_ ?_ ?_); exact rfl; exact rfl; (conv => arg 1; whnf)) | ((conv => arg 5; whnf); (with_reducible refine ops_cons ?_ ?_ ?_); exact rfl; exact rfl; (conv => arg 1; whnf)) | ((with_reducible apply d_take); exact rfl; exact rfl; exact rfl; exact rfl; (conv => arg 1; whnf)) | ((with_reducible apply d_skip); exact rfl; exact rfl; exact rfl; exact rfl; (first | exact rfl | kernel_rfl)) | ((conv => arg 6; whnf); (with_reducible apply d_take); exact rfl; exact rfl; exact rfl; exact rfl; (conv => arg 1; whnf)) | ((conv => arg 6; whnf); (with_reducible apply d_skip); exact rfl; exact rfl; exact rfl; exact rfl; (first | exact rfl | kernel_rfl)) | ((with_reducible refine st_regionD ?_ ?_); kernel_rfl; (conv => arg 6; whnf)) | ((with_reducible refine st_seq ?_)) | ((with_reducible refine st_region rfl rfl ?_); (conv => arg 5; whnf)) | ((with_reducible refine st_block ?_)) | ((with_reducible refine st_skip ?_)) | ((with_reducible refine st_exit ?_)) | ((with_reducible refine st_ret ?_)) | ((with_reducible refine k_seq ?_)) | ((with_reducible refine k_seqX ?_)) | ((with_reducible refine k_seqR ?_)) | ((with_reducible refine k_block ?_)) | ((with_reducible refine k_blockX ?_)) | ((with_reducible refine k_blockY ?_ ?_); exact rfl) | ((with_reducible refine k_blockR ?_)) | ((with_reducible refine k_loopX ?_)) | ((with_reducible refine k_loopR ?_)) | ((with_reducible refine st_condT ?_ ?_); exact rfl) | ((with_reducible refine st_condF ?_ ?_); exact rfl)))
  refine st_loop (α := { i : Nat // i ≤ l.length }) (mk := fun i => ⟨[(1, .sl (recs eSky l) l.length), (2, .box 0 0), (5, .osl 2 i.1), (6, (V.v (.int .i64 (i.1 : Int))))], [(0, .var (eCat c) false), (2, .row 27 2 (recs eBd ((refRun c l).take i.1)) 0)], 5⟩) (μ := fun i => l.length - i.1) ?_ ?_
  · exact ⟨⟨0, by omega⟩, [(0, 0), (2, 2)], ⟨rfl, rfl, rfl, rfl, trivial⟩, ⟨⟨0, _, rfl, rfl, rfl⟩, ⟨2, _, rfl, rfl, rfl⟩, trivial⟩, rfl, rfl⟩
  · rintro ⟨i, hi⟩
    have hm : (refRun c l).length = l.length := refRun_length _ _
    (repeat (first | ((with_reducible refine go_ret ?_)) | ((with_reducible refine go_put ?_); (conv => arg 1; whnf)) | ((with_reducible apply go_get); exact rfl; (conv => arg 1; whnf)) | ((with_reducible refine go_req ?_ ?_); exact (of_decide_eq_true rfl); (conv => arg 1; whnf)) | ((with_reducible refine go_req ?_ ?_); exact trivial; (conv => arg 1; whnf)) | ((with_reducible refine go_req ?_ ?_); exact rfl; (conv => arg 1; whnf)) | ((with_reducible refine go_reqP ?_ ?_); exact rfl; (conv => arg 1; whnf)) | ((with_reducible refine ops_nil ?_)) | ((with_reducible refine ops_cons ?_ ?_ ?_); exact rfl; exact rfl; (conv => arg 1; whnf)) | ((with_reducible apply ops_take); exact rfl; exact rfl; exact rfl; exact rfl; (conv => arg 1; whnf)) | ((with_reducible apply ops_skip); exact rfl; exact rfl; exact rfl; exact rfl) | ((with_reducible refine goT_ret ?_)) | ((with_reducible refine goT_put ?_); (conv => arg 1; whnf)) | ((with_reducible apply goT_get); exact rfl; (conv => arg 1; whnf)) | ((with_reducible refine goT_req ?_ ?_); exact (of_decide_eq_true rfl); (conv => arg 1; whnf)) | ((with_reducible refine goT_req ?_ ?_); exact trivial; (conv => arg 1; whnf)) | ((with_reducible refine goT_req ?_ ?_); exact rfl; (conv => arg 1; whnf)) | ((with_reducible refine goT_reqP ?_ ?_); exact rfl; (conv => arg 1; whnf)) | ((with_reducible refine d_step ?_ ?_); kernel_rfl) | ((with_reducible refine d_nil ?_)) | ((with_reducible refine d_cons ?_ ?_ ?_); exact rfl; exact rfl; (conv => arg 1; whnf)) | ((conv => arg 6; whnf); (with_reducible refine d_cons ?_ ?_ ?_); exact rfl; exact rfl; (conv => arg 1; whnf)) | ((conv => arg 5; whnf); (with_reducible refine ops_cons ?_ ?_ ?_); exact rfl; exact rfl; (conv => arg 1; whnf)) | ((with_reducible apply d_take); exact rfl; exact rfl; exact rfl; exact rfl; (conv => arg 1; whnf)) | ((with_reducible apply d_skip); exact rfl; exact rfl; exact rfl; exact rfl; (first | exact rfl | kernel_rfl)) | ((conv => arg 6; whnf); (with_reducible apply d_take); exact rfl; exact rfl; exact rfl; exact rfl; (conv => arg 1; whnf)) | ((conv => arg 6; whnf); (with_reducible apply d_skip); exact rfl; exact rfl; exact rfl; exact rfl; (first | exact rfl | kernel_rfl)) | ((with_reducible refine st_regionD ?_ ?_); kernel_rfl; (conv => arg 6; whnf)) | ((with_reducible refine st_seq ?_)) | ((with_reducible refine st_region rfl rfl ?_); (conv => arg 5; whnf)) | ((with_reducible refine st_block ?_)) | ((with_reducible refine st_skip ?_)) | ((with_reducible refine st_exit ?_)) | ((with_reducible refine st_ret ?_)) | ((with_reducible refine k_seq ?_)) | ((with_reducible refine k_seqX ?_)) | ((with_reducible refine k_seqR ?_)) | ((with_reducible refine k_block ?_)) | ((with_reducible refine k_blockX ?_)) | ((with_reducible refine k_blockY ?_ ?_); exact rfl) | ((with_reducible refine k_blockR ?_)) | ((with_reducible refine k_loopX ?_)) | ((with_reducible refine k_loopR ?_)) | ((with_reducible refine st_condT ?_ ?_); exact rfl) | ((with_reducible refine st_condF ?_ ?_); exact rfl)))
    (first | ((with_reducible apply ops_test); exact rfl; exact rfl; exact rfl; exact rfl; intro hb; (try simp only [Bool.not_true, Bool.not_false] at hb); (try simp only [hb]); (conv => arg 1; whnf); rotate_left; intro hb; (try simp only [Bool.not_true, Bool.not_false] at hb); (try simp only [hb]); rotate_right) | ((with_reducible apply d_test); exact rfl; exact rfl; exact rfl; exact rfl; (first | exact rfl | kernel_rfl); intro hb; (try simp only [Bool.not_true, Bool.not_false] at hb); (try simp only [hb]); (conv => arg 1; whnf); rotate_left; intro hb; (try simp only [Bool.not_true, Bool.not_false] at hb); (try simp only [hb]); rotate_right) | ((conv => arg 6; whnf); (with_reducible apply d_test); exact rfl; exact rfl; exact rfl; exact rfl; (first | exact rfl | kernel_rfl); intro hb; (try simp only [Bool.not_true, Bool.not_false] at hb); (try simp only [hb]); (conv => arg 1; whnf); rotate_left; intro hb; (try simp only [Bool.not_true, Bool.not_false] at hb); (try simp only [hb]); rotate_right) | ((with_reducible apply st_cond); exact rfl; intro hb; (try simp only [Bool.not_true, Bool.not_false] at hb); (try simp only [hb]); rotate_left; intro hb; (try simp only [Bool.not_true, Bool.not_false] at hb); (try simp only [hb]); rotate_right))
    · have hit : i < l.length := by simpa using hb
      (repeat (first | ((with_reducible refine go_ret ?_)) | ((with_reducible refine go_put ?_); (conv => arg 1; whnf)) | ((with_reducible apply go_get); exact rfl; (conv => arg 1; whnf)) | ((with_reducible refine go_req ?_ ?_); exact (of_decide_eq_true rfl); (conv => arg 1; whnf)) | ((with_reducible refine go_req ?_ ?_); exact trivial; (conv => arg 1; whnf)) | ((with_reducible refine go_req ?_ ?_); exact rfl; (conv => arg 1; whnf)) | ((with_reducible refine go_reqP ?_ ?_); exact rfl; (conv => arg 1; whnf)) | ((with_reducible refine ops_nil ?_)) | ((with_reducible refine ops_cons ?_ ?_ ?_); exact rfl; exact rfl; (conv => arg 1; whnf)) | ((with_reducible apply ops_take); exact rfl; exact rfl; exact rfl; exact rfl; (conv => arg 1; whnf)) | ((with_reducible apply ops_skip); exact rfl; exact rfl; exact rfl; exact rfl) | ((with_reducible refine goT_ret ?_)) | ((with_reducible refine goT_put ?_); (conv => arg 1; whnf)) | ((with_reducible apply goT_get); exact rfl; (conv => arg 1; whnf)) | ((with_reducible refine goT_req ?_ ?_); exact (of_decide_eq_true rfl); (conv => arg 1; whnf)) | ((with_reducible refine goT_req ?_ ?_); exact trivial; (conv => arg 1; whnf)) | ((with_reducible refine goT_req ?_ ?_); exact rfl; (conv => arg 1; whnf)) | ((with_reducible refine goT_reqP ?_ ?_); exact rfl; (conv => arg 1; whnf)) | ((with_reducible refine d_step ?_ ?_); kernel_rfl) | ((with_reducible refine d_nil ?_)) | ((with_reducible refine d_cons ?_ ?_ ?_); exact rfl; exact rfl; (conv => arg 1; whnf)) | ((conv => arg 6; whnf); (with_reducible refine d_cons ?_ ?_ ?_); exact rfl; exact rfl; (conv => arg 1; whnf)) | ((conv => arg 5; whnf); (with_reducible refine ops_cons ?_ ?_ ?_); exact rfl; exact rfl; (conv => arg 1; whnf)) | ((with_reducible apply d_take); exact rfl; exact rfl; exact rfl; exact rfl; (conv => arg 1; whnf)) | ((with_reducible apply d_skip); exact rfl; exact rfl; exact rfl; exact rfl; (first | exact rfl | kernel_rfl)) | ((conv => arg 6; whnf); (with_reducible apply d_take); exact rfl; exact rfl; exact rfl; exact rfl; (conv => arg 1; whnf)) | ((conv => arg 6; whnf); (with_reducible apply d_skip); exact rfl; exact rfl; exact rfl; exact rfl; (first | exact rfl | kernel_rfl)) | ((with_reducible refine st_regionD ?_ ?_); kernel_rfl; (conv => arg 6; whnf)) | ((with_reducible refine st_seq ?_)) | ((with_reducible refine st_region rfl rfl ?_); (conv => arg 5; whnf)) | ((with_reducible refine st_block ?_)) | ((with_reducible refine st_skip ?_)) | ((with_reducible refine st_exit ?_)) | ((with_reducible refine st_ret ?_)) | ((with_reducible refine k_seq ?_)) | ((with_reducible refine k_seqX ?_)) | ((with_reducible refine k_seqR ?_)) | ((with_reducible refine k_block ?_)) | ((with_reducible refine k_blockX ?_)) | ((with_reducible refine k_blockY ?_ ?_); exact rfl) | ((with_reducible refine k_blockR ?_)) | ((with_reducible refine k_loopX ?_)) | ((with_reducible refine k_loopR ?_)) | ((with_reducible refine st_condT ?_ ?_); exact rfl) | ((with_reducible refine st_condF ?_ ?_); exact rfl)))
      refine st_loop (α := { k : Nat // k ≤ i }) (mk := fun k => ⟨[(1, .sl (recs eSky l) l.length), (2, .box 0 0), (5, .osl 2 i), (6, (V.v (.int .i64 (i : Int)))), (7, .osl 9 k.1), (8, .osl 10 k.1), (9, (V.v (.int .i64 (k.1 : Int))))], [(0, .var (eCat c) false), (2, .row 27 2 (recs eBd ((refRun c l).take i)) 0), (9, .row 3 1 (ints (los (l.take k.1))) 0), (10, .row 3 1 (ints (his (l.take k.1))) 0)], 14⟩) (μ := fun k => i - k.1) ?_ ?_
      · exact ⟨⟨0, by omega⟩, [(0, 0), (2, 2), (9, 9), (10, 10)], ⟨rfl, rfl, rfl, rfl, rfl, rfl, rfl, trivial⟩, ⟨⟨0, _, rfl, rfl, rfl⟩, ⟨2, _, rfl, rfl, rfl⟩, ⟨9, _, rfl, rfl, rfl⟩, ⟨10, _, rfl, rfl, rfl⟩, trivial⟩, rfl, rfl⟩
      · rintro ⟨k, hk⟩
        (repeat (first | ((with_reducible refine go_ret ?_)) | ((with_reducible refine go_put ?_); (conv => arg 1; whnf)) | ((with_reducible apply go_get); exact rfl; (conv => arg 1; whnf)) | ((with_reducible refine go_req ?_ ?_); exact (of_decide_eq_true rfl); (conv => arg 1; whnf)) | ((with_reducible refine go_req ?_ ?_); exact trivial; (conv => arg 1; whnf)) | ((with_reducible refine go_req ?_ ?_); exact rfl; (conv => arg 1; whnf)) | ((with_reducible refine go_reqP ?_ ?_); exact rfl; (conv => arg 1; whnf)) | ((with_reducible refine ops_nil ?_)) | ((with_reducible refine ops_cons ?_ ?_ ?_); exact rfl; exact rfl; (conv => arg 1; whnf)) | ((with_reducible apply ops_take); exact rfl; exact rfl; exact rfl; exact rfl; (conv => arg 1; whnf)) | ((with_reducible apply ops_skip); exact rfl; exact rfl; exact rfl; exact rfl) | ((with_reducible refine goT_ret ?_)) | ((with_reducible refine goT_put ?_); (conv => arg 1; whnf)) | ((with_reducible apply goT_get); exact rfl; (conv => arg 1; whnf)) | ((with_reducible refine goT_req ?_ ?_); exact (of_decide_eq_true rfl); (conv => arg 1; whnf)) | ((with_reducible refine goT_req ?_ ?_); exact trivial; (conv => arg 1; whnf)) | ((with_reducible refine goT_req ?_ ?_); exact rfl; (conv => arg 1; whnf)) | ((with_reducible refine goT_reqP ?_ ?_); exact rfl; (conv => arg 1; whnf)) | ((with_reducible refine d_step ?_ ?_); kernel_rfl) | ((with_reducible refine d_nil ?_)) | ((with_reducible refine d_cons ?_ ?_ ?_); exact rfl; exact rfl; (conv => arg 1; whnf)) | ((conv => arg 6; whnf); (with_reducible refine d_cons ?_ ?_ ?_); exact rfl; exact rfl; (conv => arg 1; whnf)) | ((conv => arg 5; whnf); (with_reducible refine ops_cons ?_ ?_ ?_); exact rfl; exact rfl; (conv => arg 1; whnf)) | ((with_reducible apply d_take); exact rfl; exact rfl; exact rfl; exact rfl; (conv => arg 1; whnf)) | ((with_reducible apply d_skip); exact rfl; exact rfl; exact rfl; exact rfl; (first | exact rfl | kernel_rfl)) | ((conv => arg 6; whnf); (with_reducible apply d_take); exact rfl; exact rfl; exact rfl; exact rfl; (conv => arg 1; whnf)) | ((conv => arg 6; whnf); (with_reducible apply d_skip); exact rfl; exact rfl; exact rfl; exact rfl; (first | exact rfl | kernel_rfl)) | ((with_reducible refine st_regionD ?_ ?_); kernel_rfl; (conv => arg 6; whnf)) | ((with_reducible refine st_seq ?_)) | ((with_reducible refine st_region rfl rfl ?_); (conv => arg 5; whnf)) | ((with_reducible refine st_block ?_)) | ((with_reducible refine st_skip ?_)) | ((with_reducible refine st_exit ?_)) | ((with_reducible refine st_ret ?_)) | ((with_reducible refine k_seq ?_)) | ((with_reducible refine k_seqX ?_)) | ((with_reducible refine k_seqR ?_)) | ((with_reducible refine k_block ?_)) | ((with_reducible refine k_blockX ?_)) | ((with_reducible refine k_blockY ?_ ?_); exact rfl) | ((with_reducible refine k_blockR ?_)) | ((with_reducible refine k_loopX ?_)) | ((with_reducible refine k_loopR ?_)) | ((with_reducible refine st_condT ?_ ?_); exact rfl) | ((with_reducible refine st_condF ?_ ?_); exact rfl)))
        (first | ((with_reducible apply ops_test); exact rfl; exact rfl; exact rfl; exact rfl; intro hb; (try simp only [Bool.not_true, Bool.not_false] at hb); (try simp only [hb]); (conv => arg 1; whnf); rotate_left; intro hb; (try simp only [Bool.not_true, Bool.not_false] at hb); (try simp only [hb]); rotate_right) | ((with_reducible apply d_test); exact rfl; exact rfl; exact rfl; exact rfl; (first | exact rfl | kernel_rfl); intro hb; (try simp only [Bool.not_true, Bool.not_false] at hb); (try simp only [hb]); (conv => arg 1; whnf); rotate_left; intro hb; (try simp only [Bool.not_true, Bool.not_false] at hb); (try simp only [hb]); rotate_right) | ((conv => arg 6; whnf); (with_reducible apply d_test); exact rfl; exact rfl; exact rfl; exact rfl; (first | exact rfl | kernel_rfl); intro hb; (try simp only [Bool.not_true, Bool.not_false] at hb); (try simp only [hb]); (conv => arg 1; whnf); rotate_left; intro hb; (try simp only [Bool.not_true, Bool.not_false] at hb); (try simp only [hb]); rotate_right) | ((with_reducible apply st_cond); exact rfl; intro hb; (try simp only [Bool.not_true, Bool.not_false] at hb); (try simp only [hb]); rotate_left; intro hb; (try simp only [Bool.not_true, Bool.not_false] at hb); (try simp only [hb]); rotate_right))
        · have hkt : k < i := by simpa using hb
          have hlt : k < l.length := by omega
          (repeat (first | ((with_reducible refine go_ret ?_)) | ((with_reducible refine go_put ?_); (conv => arg 1; whnf)) | ((with_reducible apply go_get); exact rfl; (conv => arg 1; whnf)) | ((with_reducible refine go_req ?_ ?_); exact (of_decide_eq_true rfl); (conv => arg 1; whnf)) | ((with_reducible refine go_req ?_ ?_); exact trivial; (conv => arg 1; whnf)) | ((with_reducible refine go_req ?_ ?_); exact rfl; (conv => arg 1; whnf)) | ((with_reducible refine go_reqP ?_ ?_); exact rfl; (conv => arg 1; whnf)) | ((with_reducible refine ops_nil ?_)) | ((with_reducible refine ops_cons ?_ ?_ ?_); exact rfl; exact rfl; (conv => arg 1; whnf)) | ((with_reducible apply ops_take); exact rfl; exact rfl; exact rfl; exact rfl; (conv => arg 1; whnf)) | ((with_reducible apply ops_skip); exact rfl; exact rfl; exact rfl; exact rfl) | ((with_reducible refine goT_ret ?_)) | ((with_reducible refine goT_put ?_); (conv => arg 1; whnf)) | ((with_reducible apply goT_get); exact rfl; (conv => arg 1; whnf)) | ((with_reducible refine goT_req ?_ ?_); exact (of_decide_eq_true rfl); (conv => arg 1; whnf)) | ((with_reducible refine goT_req ?_ ?_); exact trivial; (conv => arg 1; whnf)) | ((with_reducible refine goT_req ?_ ?_); exact rfl; (conv => arg 1; whnf)) | ((with_reducible refine goT_reqP ?_ ?_); exact rfl; (conv => arg 1; whnf)) | ((with_reducible refine d_step ?_ ?_); kernel_rfl) | ((with_reducible refine d_nil ?_)) | ((with_reducible refine d_cons ?_ ?_ ?_); exact rfl; exact rfl; (conv => arg 1; whnf)) | ((conv => arg 6; whnf); (with_reducible refine d_cons ?_ ?_ ?_); exact rfl; exact rfl; (conv => arg 1; whnf)) | ((conv => arg 5; whnf); (with_reducible refine ops_cons ?_ ?_ ?_); exact rfl; exact rfl; (conv => arg 1; whnf)) | ((with_reducible apply d_take); exact rfl; exact rfl; exact rfl; exact rfl; (conv => arg 1; whnf)) | ((with_reducible apply d_skip); exact rfl; exact rfl; exact rfl; exact rfl; (first | exact rfl | kernel_rfl)) | ((conv => arg 6; whnf); (with_reducible apply d_take); exact rfl; exact rfl; exact rfl; exact rfl; (conv => arg 1; whnf)) | ((conv => arg 6; whnf); (with_reducible apply d_skip); exact rfl; exact rfl; exact rfl; exact rfl; (first | exact rfl | kernel_rfl)) | ((with_reducible refine st_regionD ?_ ?_); kernel_rfl; (conv => arg 6; whnf)) | ((with_reducible refine st_seq ?_)) | ((with_reducible refine st_region rfl rfl ?_); (conv => arg 5; whnf)) | ((with_reducible refine st_block ?_)) | ((with_reducible refine st_skip ?_)) | ((with_reducible refine st_exit ?_)) | ((with_reducible refine st_ret ?_)) | ((with_reducible refine k_seq ?_)) | ((with_reducible refine k_seqX ?_)) | ((with_reducible refine k_seqR ?_)) | ((with_reducible refine k_block ?_)) | ((with_reducible refine k_blockX ?_)) | ((with_reducible refine k_blockY ?_ ?_); exact rfl) | ((with_reducible refine k_blockR ?_)) | ((with_reducible refine k_loopX ?_)) | ((with_reducible refine k_loopR ?_)) | ((with_reducible refine st_condT ?_ ?_); exact rfl) | ((with_reducible refine st_condF ?_ ?_); exact rfl)))
          (refine goT_req (recs_pre (s := 4) (fun _ => rfl) hlt (by decide)) ?_; (conv => arg 1; whnf)); (repeat (first | ((with_reducible refine go_ret ?_)) | ((with_reducible refine go_put ?_); (conv => arg 1; whnf)) | ((with_reducible apply go_get); exact rfl; (conv => arg 1; whnf)) | ((with_reducible refine go_req ?_ ?_); exact (of_decide_eq_true rfl); (conv => arg 1; whnf)) | ((with_reducible refine go_req ?_ ?_); exact trivial; (conv => arg 1; whnf)) | ((with_reducible refine go_req ?_ ?_); exact rfl; (conv => arg 1; whnf)) | ((with_reducible refine go_reqP ?_ ?_); exact rfl; (conv => arg 1; whnf)) | ((with_reducible refine ops_nil ?_)) | ((with_reducible refine ops_cons ?_ ?_ ?_); exact rfl; exact rfl; (conv => arg 1; whnf)) | ((with_reducible apply ops_take); exact rfl; exact rfl; exact rfl; exact rfl; (conv => arg 1; whnf)) | ((with_reducible apply ops_skip); exact rfl; exact rfl; exact rfl; exact rfl) | ((with_reducible refine goT_ret ?_)) | ((with_reducible refine goT_put ?_); (conv => arg 1; whnf)) | ((with_reducible apply goT_get); exact rfl; (conv => arg 1; whnf)) | ((with_reducible refine goT_req ?_ ?_); exact (of_decide_eq_true rfl); (conv => arg 1; whnf)) | ((with_reducible refine goT_req ?_ ?_); exact trivial; (conv => arg 1; whnf)) | ((with_reducible refine goT_req ?_ ?_); exact rfl; (conv => arg 1; whnf)) | ((with_reducible refine goT_reqP ?_ ?_); exact rfl; (conv => arg 1; whnf)) | ((with_reducible refine d_step ?_ ?_); kernel_rfl) | ((with_reducible refine d_nil ?_)) | ((with_reducible refine d_cons ?_ ?_ ?_); exact rfl; exact rfl; (conv => arg 1; whnf)) | ((conv => arg 6; whnf); (with_reducible refine d_cons ?_ ?_ ?_); exact rfl; exact rfl; (conv => arg 1; whnf)) | ((conv => arg 5; whnf); (with_reducible refine ops_cons ?_ ?_ ?_); exact rfl; exact rfl; (conv => arg 1; whnf)) | ((with_reducible apply d_take); exact rfl; exact rfl; exact rfl; exact rfl; (conv => arg 1; whnf)) | ((with_reducible apply d_skip); exact rfl; exact rfl; exact rfl; exact rfl; (first | exact rfl | kernel_rfl)) | ((conv => arg 6; whnf); (with_reducible apply d_take); exact rfl; exact rfl; exact rfl; exact rfl; (conv => arg 1; whnf)) | ((conv => arg 6; whnf); (with_reducible apply d_skip); exact rfl; exact rfl; exact rfl; exact rfl; (first | exact rfl | kernel_rfl)) | ((with_reducible refine st_regionD ?_ ?_); kernel_rfl; (conv => arg 6; whnf)) | ((with_reducible refine st_seq ?_)) | ((with_reducible refine st_region rfl rfl ?_); (conv => arg 5; whnf)) | ((with_reducible refine st_block ?_)) | ((with_reducible refine st_skip ?_)) | ((with_reducible refine st_exit ?_)) | ((with_reducible refine st_ret ?_)) | ((with_reducible refine k_seq ?_)) | ((with_reducible refine k_seqX ?_)) | ((with_reducible refine k_seqR ?_)) | ((with_reducible refine k_block ?_)) | ((with_reducible refine k_blockX ?_)) | ((with_reducible refine k_blockY ?_ ?_); exact rfl) | ((with_reducible refine k_blockR ?_)) | ((with_reducible refine k_loopX ?_)) | ((with_reducible refine k_loopR ?_)) | ((with_reducible refine st_condT ?_ ?_); exact rfl) | ((with_reducible refine st_condF ?_ ?_); exact rfl)))
          refine goT_req (recs_cell2_len (s := 4) (o := 2) (p := 0) (fun _ => rfl) hlt (by decide)) ?_
          show (RM.retF ((((((recs eSky l).drop (k * 4)).drop 2).drop 0)[0]?).getD .top)).goT _ _ _ _
          rw [recs_cell2 (s := 4) (fun _ => rfl) l k 2 0 hlt (by decide)]
          (conv => arg 1; whnf)
          (repeat (first | ((with_reducible refine go_ret ?_)) | ((with_reducible refine go_put ?_); (conv => arg 1; whnf)) | ((with_reducible apply go_get); exact rfl; (conv => arg 1; whnf)) | ((with_reducible refine go_req ?_ ?_); exact (of_decide_eq_true rfl); (conv => arg 1; whnf)) | ((with_reducible refine go_req ?_ ?_); exact trivial; (conv => arg 1; whnf)) | ((with_reducible refine go_req ?_ ?_); exact rfl; (conv => arg 1; whnf)) | ((with_reducible refine go_reqP ?_ ?_); exact rfl; (conv => arg 1; whnf)) | ((with_reducible refine ops_nil ?_)) | ((with_reducible refine ops_cons ?_ ?_ ?_); exact rfl; exact rfl; (conv => arg 1; whnf)) | ((with_reducible apply ops_take); exact rfl; exact rfl; exact rfl; exact rfl; (conv => arg 1; whnf)) | ((with_reducible apply ops_skip); exact rfl; exact rfl; exact rfl; exact rfl) | ((with_reducible refine goT_ret ?_)) | ((with_reducible refine goT_put ?_); (conv => arg 1; whnf)) | ((with_reducible apply goT_get); exact rfl; (conv => arg 1; whnf)) | ((with_reducible refine goT_req ?_ ?_); exact (of_decide_eq_true rfl); (conv => arg 1; whnf)) | ((with_reducible refine goT_req ?_ ?_); exact trivial; (conv => arg 1; whnf)) | ((with_reducible refine goT_req ?_ ?_); exact rfl; (conv => arg 1; whnf)) | ((with_reducible refine goT_reqP ?_ ?_); exact rfl; (conv => arg 1; whnf)) | ((with_reducible refine d_step ?_ ?_); kernel_rfl) | ((with_reducible refine d_nil ?_)) | ((with_reducible refine d_cons ?_ ?_ ?_); exact rfl; exact rfl; (conv => arg 1; whnf)) | ((conv => arg 6; whnf); (with_reducible refine d_cons ?_ ?_ ?_); exact rfl; exact rfl; (conv => arg 1; whnf)) | ((conv => arg 5; whnf); (with_reducible refine ops_cons ?_ ?_ ?_); exact rfl; exact rfl; (conv => arg 1; whnf)) | ((with_reducible apply d_take); exact rfl; exact rfl; exact rfl; exact rfl; (conv => arg 1; whnf)) | ((with_reducible apply d_skip); exact rfl; exact rfl; exact rfl; exact rfl; (first | exact rfl | kernel_rfl)) | ((conv => arg 6; whnf); (with_reducible apply d_take); exact rfl; exact rfl; exact rfl; exact rfl; (conv => arg 1; whnf)) | ((conv => arg 6; whnf); (with_reducible apply d_skip); exact rfl; exact rfl; exact rfl; exact rfl; (first | exact rfl | kernel_rfl)) | ((with_reducible refine st_regionD ?_ ?_); kernel_rfl; (conv => arg 6; whnf)) | ((with_reducible refine st_seq ?_)) | ((with_reducible refine st_region rfl rfl ?_); (conv => arg 5; whnf)) | ((with_reducible refine st_block ?_)) | ((with_reducible refine st_skip ?_)) | ((with_reducible refine st_exit ?_)) | ((with_reducible refine st_ret ?_)) | ((with_reducible refine k_seq ?_)) | ((with_reducible refine k_seqX ?_)) | ((with_reducible refine k_seqR ?_)) | ((with_reducible refine k_block ?_)) | ((with_reducible refine k_blockX ?_)) | ((with_reducible refine k_blockY ?_ ?_); exact rfl) | ((with_reducible refine k_blockR ?_)) | ((with_reducible refine k_loopX ?_)) | ((with_reducible refine k_loopR ?_)) | ((with_reducible refine st_condT ?_ ?_); exact rfl) | ((with_reducible refine st_condF ?_ ?_); exact rfl)))
          (refine goT_req (show k * 1 = (ints (los (l.take k))).length ∧ k + 1 ≤ 2 ^ 63 - 1 ∧ (k + 1) * 8 ≤ 140737488355328 by simp [ints, los]; omega) ?_; (conv => arg 1; whnf))
          (repeat (first | ((with_reducible refine go_ret ?_)) | ((with_reducible refine go_put ?_); (conv => arg 1; whnf)) | ((with_reducible apply go_get); exact rfl; (conv => arg 1; whnf)) | ((with_reducible refine go_req ?_ ?_); exact (of_decide_eq_true rfl); (conv => arg 1; whnf)) | ((with_reducible refine go_req ?_ ?_); exact trivial; (conv => arg 1; whnf)) | ((with_reducible refine go_req ?_ ?_); exact rfl; (conv => arg 1; whnf)) | ((with_reducible refine go_reqP ?_ ?_); exact rfl; (conv => arg 1; whnf)) | ((with_reducible refine ops_nil ?_)) | ((with_reducible refine ops_cons ?_ ?_ ?_); exact rfl; exact rfl; (conv => arg 1; whnf)) | ((with_reducible apply ops_take); exact rfl; exact rfl; exact rfl; exact rfl; (conv => arg 1; whnf)) | ((with_reducible apply ops_skip); exact rfl; exact rfl; exact rfl; exact rfl) | ((with_reducible refine goT_ret ?_)) | ((with_reducible refine goT_put ?_); (conv => arg 1; whnf)) | ((with_reducible apply goT_get); exact rfl; (conv => arg 1; whnf)) | ((with_reducible refine goT_req ?_ ?_); exact (of_decide_eq_true rfl); (conv => arg 1; whnf)) | ((with_reducible refine goT_req ?_ ?_); exact trivial; (conv => arg 1; whnf)) | ((with_reducible refine goT_req ?_ ?_); exact rfl; (conv => arg 1; whnf)) | ((with_reducible refine goT_reqP ?_ ?_); exact rfl; (conv => arg 1; whnf)) | ((with_reducible refine d_step ?_ ?_); kernel_rfl) | ((with_reducible refine d_nil ?_)) | ((with_reducible refine d_cons ?_ ?_ ?_); exact rfl; exact rfl; (conv => arg 1; whnf)) | ((conv => arg 6; whnf); (with_reducible refine d_cons ?_ ?_ ?_); exact rfl; exact rfl; (conv => arg 1; whnf)) | ((conv => arg 5; whnf); (with_reducible refine ops_cons ?_ ?_ ?_); exact rfl; exact rfl; (conv => arg 1; whnf)) | ((with_reducible apply d_take); exact rfl; exact rfl; exact rfl; exact rfl; (conv => arg 1; whnf)) | ((with_reducible apply d_skip); exact rfl; exact rfl; exact rfl; exact rfl; (first | exact rfl | kernel_rfl)) | ((conv => arg 6; whnf); (with_reducible apply d_take); exact rfl; exact rfl; exact rfl; exact rfl; (conv => arg 1; whnf)) | ((conv => arg 6; whnf); (with_reducible apply d_skip); exact rfl; exact rfl; exact rfl; exact rfl; (first | exact rfl | kernel_rfl)) | ((with_reducible refine st_regionD ?_ ?_); kernel_rfl; (conv => arg 6; whnf)) | ((with_reducible refine st_seq ?_)) | ((with_reducible refine st_region rfl rfl ?_); (conv => arg 5; whnf)) | ((with_reducible refine st_block ?_)) | ((with_reducible refine st_skip ?_)) | ((with_reducible refine st_exit ?_)) | ((with_reducible refine st_ret ?_)) | ((with_reducible refine k_seq ?_)) | ((with_reducible refine k_seqX ?_)) | ((with_reducible refine k_seqR ?_)) | ((with_reducible refine k_block ?_)) | ((with_reducible refine k_blockX ?_)) | ((with_reducible refine k_blockY ?_ ?_); exact rfl) | ((with_reducible refine k_blockR ?_)) | ((with_reducible refine k_loopX ?_)) | ((with_reducible refine k_loopR ?_)) | ((with_reducible refine st_condT ?_ ?_); exact rfl) | ((with_reducible refine st_condF ?_ ?_); exact rfl)))
          (refine goT_req (recs_pre (s := 4) (fun _ => rfl) hlt (by decide)) ?_; (conv => arg 1; whnf)); (repeat (first | ((with_reducible refine go_ret ?_)) | ((with_reducible refine go_put ?_); (conv => arg 1; whnf)) | ((with_reducible apply go_get); exact rfl; (conv => arg 1; whnf)) | ((with_reducible refine go_req ?_ ?_); exact (of_decide_eq_true rfl); (conv => arg 1; whnf)) | ((with_reducible refine go_req ?_ ?_); exact trivial; (conv => arg 1; whnf)) | ((with_reducible refine go_req ?_ ?_); exact rfl; (conv => arg 1; whnf)) | ((with_reducible refine go_reqP ?_ ?_); exact rfl; (conv => arg 1; whnf)) | ((with_reducible refine ops_nil ?_)) | ((with_reducible refine ops_cons ?_ ?_ ?_); exact rfl; exact rfl; (conv => arg 1; whnf)) | ((with_reducible apply ops_take); exact rfl; exact rfl; exact rfl; exact rfl; (conv => arg 1; whnf)) | ((with_reducible apply ops_skip); exact rfl; exact rfl; exact rfl; exact rfl) | ((with_reducible refine goT_ret ?_)) | ((with_reducible refine goT_put ?_); (conv => arg 1; whnf)) | ((with_reducible apply goT_get); exact rfl; (conv => arg 1; whnf)) | ((with_reducible refine goT_req ?_ ?_); exact (of_decide_eq_true rfl); (conv => arg 1; whnf)) | ((with_reducible refine goT_req ?_ ?_); exact trivial; (conv => arg 1; whnf)) | ((with_reducible refine goT_req ?_ ?_); exact rfl; (conv => arg 1; whnf)) | ((with_reducible refine goT_reqP ?_ ?_); exact rfl; (conv => arg 1; whnf)) | ((with_reducible refine d_step ?_ ?_); kernel_rfl) | ((with_reducible refine d_nil ?_)) | ((with_reducible refine d_cons ?_ ?_ ?_); exact rfl; exact rfl; (conv => arg 1; whnf)) | ((conv => arg 6; whnf); (with_reducible refine d_cons ?_ ?_ ?_); exact rfl; exact rfl; (conv => arg 1; whnf)) | ((conv => arg 5; whnf); (with_reducible refine ops_cons ?_ ?_ ?_); exact rfl; exact rfl; (conv => arg 1; whnf)) | ((with_reducible apply d_take); exact rfl; exact rfl; exact rfl; exact rfl; (conv => arg 1; whnf)) | ((with_reducible apply d_skip); exact rfl; exact rfl; exact rfl; exact rfl; (first | exact rfl | kernel_rfl)) | ((conv => arg 6; whnf); (with_reducible apply d_take); exact rfl; exact rfl; exact rfl; exact rfl; (conv => arg 1; whnf)) | ((conv => arg 6; whnf); (with_reducible apply d_skip); exact rfl; exact rfl; exact rfl; exact rfl; (first | exact rfl | kernel_rfl)) | ((with_reducible refine st_regionD ?_ ?_); kernel_rfl; (conv => arg 6; whnf)) | ((with_reducible refine st_seq ?_)) | ((with_reducible refine st_region rfl rfl ?_); (conv => arg 5; whnf)) | ((with_reducible refine st_block ?_)) | ((with_reducible refine st_skip ?_)) | ((with_reducible refine st_exit ?_)) | ((with_reducible refine st_ret ?_)) | ((with_reducible refine k_seq ?_)) | ((with_reducible refine k_seqX ?_)) | ((with_reducible refine k_seqR ?_)) | ((with_reducible refine k_block ?_)) | ((with_reducible refine k_blockX ?_)) | ((with_reducible refine k_blockY ?_ ?_); exact rfl) | ((with_reducible refine k_blockR ?_)) | ((with_reducible refine k_loopX ?_)) | ((with_reducible refine k_loopR ?_)) | ((with_reducible refine st_condT ?_ ?_); exact rfl) | ((with_reducible refine st_condF ?_ ?_); exact rfl)))
          refine goT_req (recs_cell2_len (s := 4) (o := 2) (p := 1) (fun _ => rfl) hlt (by decide)) ?_
          show (RM.retF ((((((recs eSky l).drop (k * 4)).drop 2).drop 1)[0]?).getD .top)).goT _ _ _ _
          rw [recs_cell2 (s := 4) (fun _ => rfl) l k 2 1 hlt (by decide)]
          (conv => arg 1; whnf)
          (repeat (first | ((with_reducible refine go_ret ?_)) | ((with_reducible refine go_put ?_); (conv => arg 1; whnf)) | ((with_reducible apply go_get); exact rfl; (conv => arg 1; whnf)) | ((with_reducible refine go_req ?_ ?_); exact (of_decide_eq_true rfl); (conv => arg 1; whnf)) | ((with_reducible refine go_req ?_ ?_); exact trivial; (conv => arg 1; whnf)) | ((with_reducible refine go_req ?_ ?_); exact rfl; (conv => arg 1; whnf)) | ((with_reducible refine go_reqP ?_ ?_); exact rfl; (conv => arg 1; whnf)) | ((with_reducible refine ops_nil ?_)) | ((with_reducible refine ops_cons ?_ ?_ ?_); exact rfl; exact rfl; (conv => arg 1; whnf)) | ((with_reducible apply ops_take); exact rfl; exact rfl; exact rfl; exact rfl; (conv => arg 1; whnf)) | ((with_reducible apply ops_skip); exact rfl; exact rfl; exact rfl; exact rfl) | ((with_reducible refine goT_ret ?_)) | ((with_reducible refine goT_put ?_); (conv => arg 1; whnf)) | ((with_reducible apply goT_get); exact rfl; (conv => arg 1; whnf)) | ((with_reducible refine goT_req ?_ ?_); exact (of_decide_eq_true rfl); (conv => arg 1; whnf)) | ((with_reducible refine goT_req ?_ ?_); exact trivial; (conv => arg 1; whnf)) | ((with_reducible refine goT_req ?_ ?_); exact rfl; (conv => arg 1; whnf)) | ((with_reducible refine goT_reqP ?_ ?_); exact rfl; (conv => arg 1; whnf)) | ((with_reducible refine d_step ?_ ?_); kernel_rfl) | ((with_reducible refine d_nil ?_)) | ((with_reducible refine d_cons ?_ ?_ ?_); exact rfl; exact rfl; (conv => arg 1; whnf)) | ((conv => arg 6; whnf); (with_reducible refine d_cons ?_ ?_ ?_); exact rfl; exact rfl; (conv => arg 1; whnf)) | ((conv => arg 5; whnf); (with_reducible refine ops_cons ?_ ?_ ?_); exact rfl; exact rfl; (conv => arg 1; whnf)) | ((with_reducible apply d_take); exact rfl; exact rfl; exact rfl; exact rfl; (conv => arg 1; whnf)) | ((with_reducible apply d_skip); exact rfl; exact rfl; exact rfl; exact rfl; (first | exact rfl | kernel_rfl)) | ((conv => arg 6; whnf); (with_reducible apply d_take); exact rfl; exact rfl; exact rfl; exact rfl; (conv => arg 1; whnf)) | ((conv => arg 6; whnf); (with_reducible apply d_skip); exact rfl; exact rfl; exact rfl; exact rfl; (first | exact rfl | kernel_rfl)) | ((with_reducible refine st_regionD ?_ ?_); kernel_rfl; (conv => arg 6; whnf)) | ((with_reducible refine st_seq ?_)) | ((with_reducible refine st_region rfl rfl ?_); (conv => arg 5; whnf)) | ((with_reducible refine st_block ?_)) | ((with_reducible refine st_skip ?_)) | ((with_reducible refine st_exit ?_)) | ((with_reducible refine st_ret ?_)) | ((with_reducible refine k_seq ?_)) | ((with_reducible refine k_seqX ?_)) | ((with_reducible refine k_seqR ?_)) | ((with_reducible refine k_block ?_)) | ((with_reducible refine k_blockX ?_)) | ((with_reducible refine k_blockY ?_ ?_); exact rfl) | ((with_reducible refine k_blockR ?_)) | ((with_reducible refine k_loopX ?_)) | ((with_reducible refine k_loopR ?_)) | ((with_reducible refine st_condT ?_ ?_); exact rfl) | ((with_reducible refine st_condF ?_ ?_); exact rfl)))
          (refine goT_req (show k * 1 = (ints (his (l.take k))).length ∧ k + 1 ≤ 2 ^ 63 - 1 ∧ (k + 1) * 8 ≤ 140737488355328 by simp [ints, his]; omega) ?_; (conv => arg 1; whnf))
          (repeat (first | ((with_reducible refine go_ret ?_)) | ((with_reducible refine go_put ?_); (conv => arg 1; whnf)) | ((with_reducible apply go_get); exact rfl; (conv => arg 1; whnf)) | ((with_reducible refine go_req ?_ ?_); exact (of_decide_eq_true rfl); (conv => arg 1; whnf)) | ((with_reducible refine go_req ?_ ?_); exact trivial; (conv => arg 1; whnf)) | ((with_reducible refine go_req ?_ ?_); exact rfl; (conv => arg 1; whnf)) | ((with_reducible refine go_reqP ?_ ?_); exact rfl; (conv => arg 1; whnf)) | ((with_reducible refine ops_nil ?_)) | ((with_reducible refine ops_cons ?_ ?_ ?_); exact rfl; exact rfl; (conv => arg 1; whnf)) | ((with_reducible apply ops_take); exact rfl; exact rfl; exact rfl; exact rfl; (conv => arg 1; whnf)) | ((with_reducible apply ops_skip); exact rfl; exact rfl; exact rfl; exact rfl) | ((with_reducible refine goT_ret ?_)) | ((with_reducible refine goT_put ?_); (conv => arg 1; whnf)) | ((with_reducible apply goT_get); exact rfl; (conv => arg 1; whnf)) | ((with_reducible refine goT_req ?_ ?_); exact (of_decide_eq_true rfl); (conv => arg 1; whnf)) | ((with_reducible refine goT_req ?_ ?_); exact trivial; (conv => arg 1; whnf)) | ((with_reducible refine goT_req ?_ ?_); exact rfl; (conv => arg 1; whnf)) | ((with_reducible refine goT_reqP ?_ ?_); exact rfl; (conv => arg 1; whnf)) | ((with_reducible refine d_step ?_ ?_); kernel_rfl) | ((with_reducible refine d_nil ?_)) | ((with_reducible refine d_cons ?_ ?_ ?_); exact rfl; exact rfl; (conv => arg 1; whnf)) | ((conv => arg 6; whnf); (with_reducible refine d_cons ?_ ?_ ?_); exact rfl; exact rfl; (conv => arg 1; whnf)) | ((conv => arg 5; whnf); (with_reducible refine ops_cons ?_ ?_ ?_); exact rfl; exact rfl; (conv => arg 1; whnf)) | ((with_reducible apply d_take); exact rfl; exact rfl; exact rfl; exact rfl; (conv => arg 1; whnf)) | ((with_reducible apply d_skip); exact rfl; exact rfl; exact rfl; exact rfl; (first | exact rfl | kernel_rfl)) | ((conv => arg 6; whnf); (with_reducible apply d_take); exact rfl; exact rfl; exact rfl; exact rfl; (conv => arg 1; whnf)) | ((conv => arg 6; whnf); (with_reducible apply d_skip); exact rfl; exact rfl; exact rfl; exact rfl; (first | exact rfl | kernel_rfl)) | ((with_reducible refine st_regionD ?_ ?_); kernel_rfl; (conv => arg 6; whnf)) | ((with_reducible refine st_seq ?_)) | ((with_reducible refine st_region rfl rfl ?_); (conv => arg 5; whnf)) | ((with_reducible refine st_block ?_)) | ((with_reducible refine st_skip ?_)) | ((with_reducible refine st_exit ?_)) | ((with_reducible refine st_ret ?_)) | ((with_reducible refine k_seq ?_)) | ((with_reducible refine k_seqX ?_)) | ((with_reducible refine k_seqR ?_)) | ((with_reducible refine k_block ?_)) | ((with_reducible refine k_blockX ?_)) | ((with_reducible refine k_blockY ?_ ?_); exact rfl) | ((with_reducible refine k_blockR ?_)) | ((with_reducible refine k_loopX ?_)) | ((with_reducible refine k_loopR ?_)) | ((with_reducible refine st_condT ?_ ?_); exact rfl) | ((with_reducible refine st_condF ?_ ?_); exact rfl)))
          refine k_loop (⟨k + 1, by omega⟩ : { k : Nat // k ≤ i }) [(0, 0), (2, 2), (9, 25), (10, 34)] ⟨⟨rfl, rfl, rfl, rfl, rfl, rfl, iEq (wrap_succ (k := k) (by omega)), trivial⟩, ⟨⟨0, _, rfl, rfl, rfl⟩, ⟨2, _, rfl, rfl, rfl⟩, ⟨25, _, rfl, rfl, ?_⟩, ⟨34, _, rfl, rfl, ?_⟩, trivial⟩, rfl, rfl⟩ (by simp; omega)
          · show some (Bx.row 3 1 (ints (los (l.take k)) ++ [(V.v (.int .i64 (l[k].heat.lo)))]) 0) = some (Bx.row 3 1 (ints (los (l.take (k + 1)))) 0)
            rw [List.take_succ_eq_append_getElem hlt]
            simp only [ints, los, List.map_append, List.map_cons, List.map_nil]
          · show some (Bx.row 3 1 (ints (his (l.take k)) ++ [(V.v (.int .i64 (l[k].heat.hi)))]) 0) = some (Bx.row 3 1 (ints (his (l.take (k + 1)))) 0)
            rw [List.take_succ_eq_append_getElem hlt]
            simp only [ints, his, List.map_append, List.map_cons, List.map_nil]
        · have hki : k = i := by have := of_decide_eq_false hb; omega
          subst hki
          (repeat (first | ((with_reducible refine go_ret ?_)) | ((with_reducible refine go_put ?_); (conv => arg 1; whnf)) | ((with_reducible apply go_get); exact rfl; (conv => arg 1; whnf)) | ((with_reducible refine go_req ?_ ?_); exact (of_decide_eq_true rfl); (conv => arg 1; whnf)) | ((with_reducible refine go_req ?_ ?_); exact trivial; (conv => arg 1; whnf)) | ((with_reducible refine go_req ?_ ?_); exact rfl; (conv => arg 1; whnf)) | ((with_reducible refine go_reqP ?_ ?_); exact rfl; (conv => arg 1; whnf)) | ((with_reducible refine ops_nil ?_)) | ((with_reducible refine ops_cons ?_ ?_ ?_); exact rfl; exact rfl; (conv => arg 1; whnf)) | ((with_reducible apply ops_take); exact rfl; exact rfl; exact rfl; exact rfl; (conv => arg 1; whnf)) | ((with_reducible apply ops_skip); exact rfl; exact rfl; exact rfl; exact rfl) | ((with_reducible refine goT_ret ?_)) | ((with_reducible refine goT_put ?_); (conv => arg 1; whnf)) | ((with_reducible apply goT_get); exact rfl; (conv => arg 1; whnf)) | ((with_reducible refine goT_req ?_ ?_); exact (of_decide_eq_true rfl); (conv => arg 1; whnf)) | ((with_reducible refine goT_req ?_ ?_); exact trivial; (conv => arg 1; whnf)) | ((with_reducible refine goT_req ?_ ?_); exact rfl; (conv => arg 1; whnf)) | ((with_reducible refine goT_reqP ?_ ?_); exact rfl; (conv => arg 1; whnf)) | ((with_reducible refine d_step ?_ ?_); kernel_rfl) | ((with_reducible refine d_nil ?_)) | ((with_reducible refine d_cons ?_ ?_ ?_); exact rfl; exact rfl; (conv => arg 1; whnf)) | ((conv => arg 6; whnf); (with_reducible refine d_cons ?_ ?_ ?_); exact rfl; exact rfl; (conv => arg 1; whnf)) | ((conv => arg 5; whnf); (with_reducible refine ops_cons ?_ ?_ ?_); exact rfl; exact rfl; (conv => arg 1; whnf)) | ((with_reducible apply d_take); exact rfl; exact rfl; exact rfl; exact rfl; (conv => arg 1; whnf)) | ((with_reducible apply d_skip); exact rfl; exact rfl; exact rfl; exact rfl; (first | exact rfl | kernel_rfl)) | ((conv => arg 6; whnf); (with_reducible apply d_take); exact rfl; exact rfl; exact rfl; exact rfl; (conv => arg 1; whnf)) | ((conv => arg 6; whnf); (with_reducible apply d_skip); exact rfl; exact rfl; exact rfl; exact rfl; (first | exact rfl | kernel_rfl)) | ((with_reducible refine st_regionD ?_ ?_); kernel_rfl; (conv => arg 6; whnf)) | ((with_reducible refine st_seq ?_)) | ((with_reducible refine st_region rfl rfl ?_); (conv => arg 5; whnf)) | ((with_reducible refine st_block ?_)) | ((with_reducible refine st_skip ?_)) | ((with_reducible refine st_exit ?_)) | ((with_reducible refine st_ret ?_)) | ((with_reducible refine k_seq ?_)) | ((with_reducible refine k_seqX ?_)) | ((with_reducible refine k_seqR ?_)) | ((with_reducible refine k_block ?_)) | ((with_reducible refine k_blockX ?_)) | ((with_reducible refine k_blockY ?_ ?_); exact rfl) | ((with_reducible refine k_blockR ?_)) | ((with_reducible refine k_loopX ?_)) | ((with_reducible refine k_loopR ?_)) | ((with_reducible refine st_condT ?_ ?_); exact rfl) | ((with_reducible refine st_condF ?_ ?_); exact rfl)))
          (refine goT_req (recs_pre (s := 4) (fun _ => rfl) hit (by decide)) ?_; (conv => arg 1; whnf)); (repeat (first | ((with_reducible refine go_ret ?_)) | ((with_reducible refine go_put ?_); (conv => arg 1; whnf)) | ((with_reducible apply go_get); exact rfl; (conv => arg 1; whnf)) | ((with_reducible refine go_req ?_ ?_); exact (of_decide_eq_true rfl); (conv => arg 1; whnf)) | ((with_reducible refine go_req ?_ ?_); exact trivial; (conv => arg 1; whnf)) | ((with_reducible refine go_req ?_ ?_); exact rfl; (conv => arg 1; whnf)) | ((with_reducible refine go_reqP ?_ ?_); exact rfl; (conv => arg 1; whnf)) | ((with_reducible refine ops_nil ?_)) | ((with_reducible refine ops_cons ?_ ?_ ?_); exact rfl; exact rfl; (conv => arg 1; whnf)) | ((with_reducible apply ops_take); exact rfl; exact rfl; exact rfl; exact rfl; (conv => arg 1; whnf)) | ((with_reducible apply ops_skip); exact rfl; exact rfl; exact rfl; exact rfl) | ((with_reducible refine goT_ret ?_)) | ((with_reducible refine goT_put ?_); (conv => arg 1; whnf)) | ((with_reducible apply goT_get); exact rfl; (conv => arg 1; whnf)) | ((with_reducible refine goT_req ?_ ?_); exact (of_decide_eq_true rfl); (conv => arg 1; whnf)) | ((with_reducible refine goT_req ?_ ?_); exact trivial; (conv => arg 1; whnf)) | ((with_reducible refine goT_req ?_ ?_); exact rfl; (conv => arg 1; whnf)) | ((with_reducible refine goT_reqP ?_ ?_); exact rfl; (conv => arg 1; whnf)) | ((with_reducible refine d_step ?_ ?_); kernel_rfl) | ((with_reducible refine d_nil ?_)) | ((with_reducible refine d_cons ?_ ?_ ?_); exact rfl; exact rfl; (conv => arg 1; whnf)) | ((conv => arg 6; whnf); (with_reducible refine d_cons ?_ ?_ ?_); exact rfl; exact rfl; (conv => arg 1; whnf)) | ((conv => arg 5; whnf); (with_reducible refine ops_cons ?_ ?_ ?_); exact rfl; exact rfl; (conv => arg 1; whnf)) | ((with_reducible apply d_take); exact rfl; exact rfl; exact rfl; exact rfl; (conv => arg 1; whnf)) | ((with_reducible apply d_skip); exact rfl; exact rfl; exact rfl; exact rfl; (first | exact rfl | kernel_rfl)) | ((conv => arg 6; whnf); (with_reducible apply d_take); exact rfl; exact rfl; exact rfl; exact rfl; (conv => arg 1; whnf)) | ((conv => arg 6; whnf); (with_reducible apply d_skip); exact rfl; exact rfl; exact rfl; exact rfl; (first | exact rfl | kernel_rfl)) | ((with_reducible refine st_regionD ?_ ?_); kernel_rfl; (conv => arg 6; whnf)) | ((with_reducible refine st_seq ?_)) | ((with_reducible refine st_region rfl rfl ?_); (conv => arg 5; whnf)) | ((with_reducible refine st_block ?_)) | ((with_reducible refine st_skip ?_)) | ((with_reducible refine st_exit ?_)) | ((with_reducible refine st_ret ?_)) | ((with_reducible refine k_seq ?_)) | ((with_reducible refine k_seqX ?_)) | ((with_reducible refine k_seqR ?_)) | ((with_reducible refine k_block ?_)) | ((with_reducible refine k_blockX ?_)) | ((with_reducible refine k_blockY ?_ ?_); exact rfl) | ((with_reducible refine k_blockR ?_)) | ((with_reducible refine k_loopX ?_)) | ((with_reducible refine k_loopR ?_)) | ((with_reducible refine st_condT ?_ ?_); exact rfl) | ((with_reducible refine st_condF ?_ ?_); exact rfl)))
          refine goT_req (recs_cell2_len (s := 4) (o := 2) (p := 0) (fun _ => rfl) hit (by decide)) ?_
          show (RM.retF ((((((recs eSky l).drop (k * 4)).drop 2).drop 0)[0]?).getD .top)).goT _ _ _ _
          rw [recs_cell2 (s := 4) (fun _ => rfl) l k 2 0 hit (by decide)]
          (conv => arg 1; whnf)
          (repeat (first | ((with_reducible refine go_ret ?_)) | ((with_reducible refine go_put ?_); (conv => arg 1; whnf)) | ((with_reducible apply go_get); exact rfl; (conv => arg 1; whnf)) | ((with_reducible refine go_req ?_ ?_); exact (of_decide_eq_true rfl); (conv => arg 1; whnf)) | ((with_reducible refine go_req ?_ ?_); exact trivial; (conv => arg 1; whnf)) | ((with_reducible refine go_req ?_ ?_); exact rfl; (conv => arg 1; whnf)) | ((with_reducible refine go_reqP ?_ ?_); exact rfl; (conv => arg 1; whnf)) | ((with_reducible refine ops_nil ?_)) | ((with_reducible refine ops_cons ?_ ?_ ?_); exact rfl; exact rfl; (conv => arg 1; whnf)) | ((with_reducible apply ops_take); exact rfl; exact rfl; exact rfl; exact rfl; (conv => arg 1; whnf)) | ((with_reducible apply ops_skip); exact rfl; exact rfl; exact rfl; exact rfl) | ((with_reducible refine goT_ret ?_)) | ((with_reducible refine goT_put ?_); (conv => arg 1; whnf)) | ((with_reducible apply goT_get); exact rfl; (conv => arg 1; whnf)) | ((with_reducible refine goT_req ?_ ?_); exact (of_decide_eq_true rfl); (conv => arg 1; whnf)) | ((with_reducible refine goT_req ?_ ?_); exact trivial; (conv => arg 1; whnf)) | ((with_reducible refine goT_req ?_ ?_); exact rfl; (conv => arg 1; whnf)) | ((with_reducible refine goT_reqP ?_ ?_); exact rfl; (conv => arg 1; whnf)) | ((with_reducible refine d_step ?_ ?_); kernel_rfl) | ((with_reducible refine d_nil ?_)) | ((with_reducible refine d_cons ?_ ?_ ?_); exact rfl; exact rfl; (conv => arg 1; whnf)) | ((conv => arg 6; whnf); (with_reducible refine d_cons ?_ ?_ ?_); exact rfl; exact rfl; (conv => arg 1; whnf)) | ((conv => arg 5; whnf); (with_reducible refine ops_cons ?_ ?_ ?_); exact rfl; exact rfl; (conv => arg 1; whnf)) | ((with_reducible apply d_take); exact rfl; exact rfl; exact rfl; exact rfl; (conv => arg 1; whnf)) | ((with_reducible apply d_skip); exact rfl; exact rfl; exact rfl; exact rfl; (first | exact rfl | kernel_rfl)) | ((conv => arg 6; whnf); (with_reducible apply d_take); exact rfl; exact rfl; exact rfl; exact rfl; (conv => arg 1; whnf)) | ((conv => arg 6; whnf); (with_reducible apply d_skip); exact rfl; exact rfl; exact rfl; exact rfl; (first | exact rfl | kernel_rfl)) | ((with_reducible refine st_regionD ?_ ?_); kernel_rfl; (conv => arg 6; whnf)) | ((with_reducible refine st_seq ?_)) | ((with_reducible refine st_region rfl rfl ?_); (conv => arg 5; whnf)) | ((with_reducible refine st_block ?_)) | ((with_reducible refine st_skip ?_)) | ((with_reducible refine st_exit ?_)) | ((with_reducible refine st_ret ?_)) | ((with_reducible refine k_seq ?_)) | ((with_reducible refine k_seqX ?_)) | ((with_reducible refine k_seqR ?_)) | ((with_reducible refine k_block ?_)) | ((with_reducible refine k_blockX ?_)) | ((with_reducible refine k_blockY ?_ ?_); exact rfl) | ((with_reducible refine k_blockR ?_)) | ((with_reducible refine k_loopX ?_)) | ((with_reducible refine k_loopR ?_)) | ((with_reducible refine st_condT ?_ ?_); exact rfl) | ((with_reducible refine st_condF ?_ ?_); exact rfl)))
          (refine goT_req (show k * 1 = (ints (his (l.take k))).length ∧ k + 1 ≤ 2 ^ 63 - 1 ∧ (k + 1) * 8 ≤ 140737488355328 by simp [ints, his]; omega) ?_; (conv => arg 1; whnf))
          (repeat (first | ((with_reducible refine go_ret ?_)) | ((with_reducible refine go_put ?_); (conv => arg 1; whnf)) | ((with_reducible apply go_get); exact rfl; (conv => arg 1; whnf)) | ((with_reducible refine go_req ?_ ?_); exact (of_decide_eq_true rfl); (conv => arg 1; whnf)) | ((with_reducible refine go_req ?_ ?_); exact trivial; (conv => arg 1; whnf)) | ((with_reducible refine go_req ?_ ?_); exact rfl; (conv => arg 1; whnf)) | ((with_reducible refine go_reqP ?_ ?_); exact rfl; (conv => arg 1; whnf)) | ((with_reducible refine ops_nil ?_)) | ((with_reducible refine ops_cons ?_ ?_ ?_); exact rfl; exact rfl; (conv => arg 1; whnf)) | ((with_reducible apply ops_take); exact rfl; exact rfl; exact rfl; exact rfl; (conv => arg 1; whnf)) | ((with_reducible apply ops_skip); exact rfl; exact rfl; exact rfl; exact rfl) | ((with_reducible refine goT_ret ?_)) | ((with_reducible refine goT_put ?_); (conv => arg 1; whnf)) | ((with_reducible apply goT_get); exact rfl; (conv => arg 1; whnf)) | ((with_reducible refine goT_req ?_ ?_); exact (of_decide_eq_true rfl); (conv => arg 1; whnf)) | ((with_reducible refine goT_req ?_ ?_); exact trivial; (conv => arg 1; whnf)) | ((with_reducible refine goT_req ?_ ?_); exact rfl; (conv => arg 1; whnf)) | ((with_reducible refine goT_reqP ?_ ?_); exact rfl; (conv => arg 1; whnf)) | ((with_reducible refine d_step ?_ ?_); kernel_rfl) | ((with_reducible refine d_nil ?_)) | ((with_reducible refine d_cons ?_ ?_ ?_); exact rfl; exact rfl; (conv => arg 1; whnf)) | ((conv => arg 6; whnf); (with_reducible refine d_cons ?_ ?_ ?_); exact rfl; exact rfl; (conv => arg 1; whnf)) | ((conv => arg 5; whnf); (with_reducible refine ops_cons ?_ ?_ ?_); exact rfl; exact rfl; (conv => arg 1; whnf)) | ((with_reducible apply d_take); exact rfl; exact rfl; exact rfl; exact rfl; (conv => arg 1; whnf)) | ((with_reducible apply d_skip); exact rfl; exact rfl; exact rfl; exact rfl; (first | exact rfl | kernel_rfl)) | ((conv => arg 6; whnf); (with_reducible apply d_take); exact rfl; exact rfl; exact rfl; exact rfl; (conv => arg 1; whnf)) | ((conv => arg 6; whnf); (with_reducible apply d_skip); exact rfl; exact rfl; exact rfl; exact rfl; (first | exact rfl | kernel_rfl)) | ((with_reducible refine st_regionD ?_ ?_); kernel_rfl; (conv => arg 6; whnf)) | ((with_reducible refine st_seq ?_)) | ((with_reducible refine st_region rfl rfl ?_); (conv => arg 5; whnf)) | ((with_reducible refine st_block ?_)) | ((with_reducible refine st_skip ?_)) | ((with_reducible refine st_exit ?_)) | ((with_reducible refine st_ret ?_)) | ((with_reducible refine k_seq ?_)) | ((with_reducible refine k_seqX ?_)) | ((with_reducible refine k_seqR ?_)) | ((with_reducible refine k_block ?_)) | ((with_reducible refine k_blockX ?_)) | ((with_reducible refine k_blockY ?_ ?_); exact rfl) | ((with_reducible refine k_blockR ?_)) | ((with_reducible refine k_loopX ?_)) | ((with_reducible refine k_loopR ?_)) | ((with_reducible refine st_condT ?_ ?_); exact rfl) | ((with_reducible refine st_condF ?_ ?_); exact rfl)))
          rw [ints_snoc]
          have hhis : (his (l.take k) ++ [l[k].heat.lo]).length = k + 1 := by simp [his]; omega
          (refine goT_req (show (k + 1) * 1 = (ints (his (l.take k) ++ [l[k].heat.lo])).length by rw [ints_len, hhis]; omega) ?_; (conv => arg 1; whnf))
          (repeat (first | ((with_reducible refine go_ret ?_)) | ((with_reducible refine go_put ?_); (conv => arg 1; whnf)) | ((with_reducible apply go_get); exact rfl; (conv => arg 1; whnf)) | ((with_reducible refine go_req ?_ ?_); exact (of_decide_eq_true rfl); (conv => arg 1; whnf)) | ((with_reducible refine go_req ?_ ?_); exact trivial; (conv => arg 1; whnf)) | ((with_reducible refine go_req ?_ ?_); exact rfl; (conv => arg 1; whnf)) | ((with_reducible refine go_reqP ?_ ?_); exact rfl; (conv => arg 1; whnf)) | ((with_reducible refine ops_nil ?_)) | ((with_reducible refine ops_cons ?_ ?_ ?_); exact rfl; exact rfl; (conv => arg 1; whnf)) | ((with_reducible apply ops_take); exact rfl; exact rfl; exact rfl; exact rfl; (conv => arg 1; whnf)) | ((with_reducible apply ops_skip); exact rfl; exact rfl; exact rfl; exact rfl) | ((with_reducible refine goT_ret ?_)) | ((with_reducible refine goT_put ?_); (conv => arg 1; whnf)) | ((with_reducible apply goT_get); exact rfl; (conv => arg 1; whnf)) | ((with_reducible refine goT_req ?_ ?_); exact (of_decide_eq_true rfl); (conv => arg 1; whnf)) | ((with_reducible refine goT_req ?_ ?_); exact trivial; (conv => arg 1; whnf)) | ((with_reducible refine goT_req ?_ ?_); exact rfl; (conv => arg 1; whnf)) | ((with_reducible refine goT_reqP ?_ ?_); exact rfl; (conv => arg 1; whnf)) | ((with_reducible refine d_step ?_ ?_); kernel_rfl) | ((with_reducible refine d_nil ?_)) | ((with_reducible refine d_cons ?_ ?_ ?_); exact rfl; exact rfl; (conv => arg 1; whnf)) | ((conv => arg 6; whnf); (with_reducible refine d_cons ?_ ?_ ?_); exact rfl; exact rfl; (conv => arg 1; whnf)) | ((conv => arg 5; whnf); (with_reducible refine ops_cons ?_ ?_ ?_); exact rfl; exact rfl; (conv => arg 1; whnf)) | ((with_reducible apply d_take); exact rfl; exact rfl; exact rfl; exact rfl; (conv => arg 1; whnf)) | ((with_reducible apply d_skip); exact rfl; exact rfl; exact rfl; exact rfl; (first | exact rfl | kernel_rfl)) | ((conv => arg 6; whnf); (with_reducible apply d_take); exact rfl; exact rfl; exact rfl; exact rfl; (conv => arg 1; whnf)) | ((conv => arg 6; whnf); (with_reducible apply d_skip); exact rfl; exact rfl; exact rfl; exact rfl; (first | exact rfl | kernel_rfl)) | ((with_reducible refine st_regionD ?_ ?_); kernel_rfl; (conv => arg 6; whnf)) | ((with_reducible refine st_seq ?_)) | ((with_reducible refine st_region rfl rfl ?_); (conv => arg 5; whnf)) | ((with_reducible refine st_block ?_)) | ((with_reducible refine st_skip ?_)) | ((with_reducible refine st_exit ?_)) | ((with_reducible refine st_ret ?_)) | ((with_reducible refine k_seq ?_)) | ((with_reducible refine k_seqX ?_)) | ((with_reducible refine k_seqR ?_)) | ((with_reducible refine k_block ?_)) | ((with_reducible refine k_blockX ?_)) | ((with_reducible refine k_blockY ?_ ?_); exact rfl) | ((with_reducible refine k_blockR ?_)) | ((with_reducible refine k_loopX ?_)) | ((with_reducible refine k_loopR ?_)) | ((with_reducible refine st_condT ?_ ?_); exact rfl) | ((with_reducible refine st_condF ?_ ?_); exact rfl)))
          (refine goT_exi (c.melt, c.snow.lo, his (l.take k) ++ [l[k].heat.lo]) ?_ ?_; exact ⟨by show _ = [_, _, V.sl (ints (his (l.take k) ++ [l[k].heat.lo])) (his (l.take k) ++ [l[k].heat.lo]).length]; rw [hhis], show (his (l.take k) ++ [l[k].heat.lo]).length ≤ 1000000 by omega⟩; (conv => arg 1; whnf))
          (repeat (first | ((with_reducible refine go_ret ?_)) | ((with_reducible refine go_put ?_); (conv => arg 1; whnf)) | ((with_reducible apply go_get); exact rfl; (conv => arg 1; whnf)) | ((with_reducible refine go_req ?_ ?_); exact (of_decide_eq_true rfl); (conv => arg 1; whnf)) | ((with_reducible refine go_req ?_ ?_); exact trivial; (conv => arg 1; whnf)) | ((with_reducible refine go_req ?_ ?_); exact rfl; (conv => arg 1; whnf)) | ((with_reducible refine go_reqP ?_ ?_); exact rfl; (conv => arg 1; whnf)) | ((with_reducible refine ops_nil ?_)) | ((with_reducible refine ops_cons ?_ ?_ ?_); exact rfl; exact rfl; (conv => arg 1; whnf)) | ((with_reducible apply ops_take); exact rfl; exact rfl; exact rfl; exact rfl; (conv => arg 1; whnf)) | ((with_reducible apply ops_skip); exact rfl; exact rfl; exact rfl; exact rfl) | ((with_reducible refine goT_ret ?_)) | ((with_reducible refine goT_put ?_); (conv => arg 1; whnf)) | ((with_reducible apply goT_get); exact rfl; (conv => arg 1; whnf)) | ((with_reducible refine goT_req ?_ ?_); exact (of_decide_eq_true rfl); (conv => arg 1; whnf)) | ((with_reducible refine goT_req ?_ ?_); exact trivial; (conv => arg 1; whnf)) | ((with_reducible refine goT_req ?_ ?_); exact rfl; (conv => arg 1; whnf)) | ((with_reducible refine goT_reqP ?_ ?_); exact rfl; (conv => arg 1; whnf)) | ((with_reducible refine d_step ?_ ?_); kernel_rfl) | ((with_reducible refine d_nil ?_)) | ((with_reducible refine d_cons ?_ ?_ ?_); exact rfl; exact rfl; (conv => arg 1; whnf)) | ((conv => arg 6; whnf); (with_reducible refine d_cons ?_ ?_ ?_); exact rfl; exact rfl; (conv => arg 1; whnf)) | ((conv => arg 5; whnf); (with_reducible refine ops_cons ?_ ?_ ?_); exact rfl; exact rfl; (conv => arg 1; whnf)) | ((with_reducible apply d_take); exact rfl; exact rfl; exact rfl; exact rfl; (conv => arg 1; whnf)) | ((with_reducible apply d_skip); exact rfl; exact rfl; exact rfl; exact rfl; (first | exact rfl | kernel_rfl)) | ((conv => arg 6; whnf); (with_reducible apply d_take); exact rfl; exact rfl; exact rfl; exact rfl; (conv => arg 1; whnf)) | ((conv => arg 6; whnf); (with_reducible apply d_skip); exact rfl; exact rfl; exact rfl; exact rfl; (first | exact rfl | kernel_rfl)) | ((with_reducible refine st_regionD ?_ ?_); kernel_rfl; (conv => arg 6; whnf)) | ((with_reducible refine st_seq ?_)) | ((with_reducible refine st_region rfl rfl ?_); (conv => arg 5; whnf)) | ((with_reducible refine st_block ?_)) | ((with_reducible refine st_skip ?_)) | ((with_reducible refine st_exit ?_)) | ((with_reducible refine st_ret ?_)) | ((with_reducible refine k_seq ?_)) | ((with_reducible refine k_seqX ?_)) | ((with_reducible refine k_seqR ?_)) | ((with_reducible refine k_block ?_)) | ((with_reducible refine k_blockX ?_)) | ((with_reducible refine k_blockY ?_ ?_); exact rfl) | ((with_reducible refine k_blockR ?_)) | ((with_reducible refine k_loopX ?_)) | ((with_reducible refine k_loopR ?_)) | ((with_reducible refine st_condT ?_ ?_); exact rfl) | ((with_reducible refine st_condF ?_ ?_); exact rfl)))
          have mhis : (meltsGo c.melt c.snow.lo (his (l.take k) ++ [l[k].heat.lo])).length = k + 1 := by rw [meltsGo_length, hhis]
          (refine goT_req ((show 0 ≤ (k : Int) ∧ (k : Int) < ((his (l.take k) ++ [l[k].heat.lo]).length : Int) ∧ (his (l.take k) ++ [l[k].heat.lo]).length * 1 = (ints (meltsGo c.melt c.snow.lo (his (l.take k) ++ [l[k].heat.lo]))).length ∧ 0 < 1 by rw [ints_len, mhis, hhis]; omega)) ?_; (conv => arg 1; whnf)); (repeat (first | ((with_reducible refine go_ret ?_)) | ((with_reducible refine go_put ?_); (conv => arg 1; whnf)) | ((with_reducible apply go_get); exact rfl; (conv => arg 1; whnf)) | ((with_reducible refine go_req ?_ ?_); exact (of_decide_eq_true rfl); (conv => arg 1; whnf)) | ((with_reducible refine go_req ?_ ?_); exact trivial; (conv => arg 1; whnf)) | ((with_reducible refine go_req ?_ ?_); exact rfl; (conv => arg 1; whnf)) | ((with_reducible refine go_reqP ?_ ?_); exact rfl; (conv => arg 1; whnf)) | ((with_reducible refine ops_nil ?_)) | ((with_reducible refine ops_cons ?_ ?_ ?_); exact rfl; exact rfl; (conv => arg 1; whnf)) | ((with_reducible apply ops_take); exact rfl; exact rfl; exact rfl; exact rfl; (conv => arg 1; whnf)) | ((with_reducible apply ops_skip); exact rfl; exact rfl; exact rfl; exact rfl) | ((with_reducible refine goT_ret ?_)) | ((with_reducible refine goT_put ?_); (conv => arg 1; whnf)) | ((with_reducible apply goT_get); exact rfl; (conv => arg 1; whnf)) | ((with_reducible refine goT_req ?_ ?_); exact (of_decide_eq_true rfl); (conv => arg 1; whnf)) | ((with_reducible refine goT_req ?_ ?_); exact trivial; (conv => arg 1; whnf)) | ((with_reducible refine goT_req ?_ ?_); exact rfl; (conv => arg 1; whnf)) | ((with_reducible refine goT_reqP ?_ ?_); exact rfl; (conv => arg 1; whnf)) | ((with_reducible refine d_step ?_ ?_); kernel_rfl) | ((with_reducible refine d_nil ?_)) | ((with_reducible refine d_cons ?_ ?_ ?_); exact rfl; exact rfl; (conv => arg 1; whnf)) | ((conv => arg 6; whnf); (with_reducible refine d_cons ?_ ?_ ?_); exact rfl; exact rfl; (conv => arg 1; whnf)) | ((conv => arg 5; whnf); (with_reducible refine ops_cons ?_ ?_ ?_); exact rfl; exact rfl; (conv => arg 1; whnf)) | ((with_reducible apply d_take); exact rfl; exact rfl; exact rfl; exact rfl; (conv => arg 1; whnf)) | ((with_reducible apply d_skip); exact rfl; exact rfl; exact rfl; exact rfl; (first | exact rfl | kernel_rfl)) | ((conv => arg 6; whnf); (with_reducible apply d_take); exact rfl; exact rfl; exact rfl; exact rfl; (conv => arg 1; whnf)) | ((conv => arg 6; whnf); (with_reducible apply d_skip); exact rfl; exact rfl; exact rfl; exact rfl; (first | exact rfl | kernel_rfl)) | ((with_reducible refine st_regionD ?_ ?_); kernel_rfl; (conv => arg 6; whnf)) | ((with_reducible refine st_seq ?_)) | ((with_reducible refine st_region rfl rfl ?_); (conv => arg 5; whnf)) | ((with_reducible refine st_block ?_)) | ((with_reducible refine st_skip ?_)) | ((with_reducible refine st_exit ?_)) | ((with_reducible refine st_ret ?_)) | ((with_reducible refine k_seq ?_)) | ((with_reducible refine k_seqX ?_)) | ((with_reducible refine k_seqR ?_)) | ((with_reducible refine k_block ?_)) | ((with_reducible refine k_blockX ?_)) | ((with_reducible refine k_blockY ?_ ?_); exact rfl) | ((with_reducible refine k_blockR ?_)) | ((with_reducible refine k_loopX ?_)) | ((with_reducible refine k_loopR ?_)) | ((with_reducible refine st_condT ?_ ?_); exact rfl) | ((with_reducible refine st_condF ?_ ?_); exact rfl)))
          refine goT_req (show 0 < ((ints (meltsGo c.melt c.snow.lo (his (l.take k) ++ [l[k].heat.lo]))).drop (k * 1)).length by rw [List.length_drop, ints_len, mhis]; omega) ?_
          show (RM.retF ((((ints (meltsGo c.melt c.snow.lo (his (l.take k) ++ [l[k].heat.lo]))).drop (k * 1))[0]?).getD .top)).goT _ _ _ _
          rw [ints_getD _ k (by omega)]
          (conv => arg 1; whnf)
          (repeat (first | ((with_reducible refine go_ret ?_)) | ((with_reducible refine go_put ?_); (conv => arg 1; whnf)) | ((with_reducible apply go_get); exact rfl; (conv => arg 1; whnf)) | ((with_reducible refine go_req ?_ ?_); exact (of_decide_eq_true rfl); (conv => arg 1; whnf)) | ((with_reducible refine go_req ?_ ?_); exact trivial; (conv => arg 1; whnf)) | ((with_reducible refine go_req ?_ ?_); exact rfl; (conv => arg 1; whnf)) | ((with_reducible refine go_reqP ?_ ?_); exact rfl; (conv => arg 1; whnf)) | ((with_reducible refine ops_nil ?_)) | ((with_reducible refine ops_cons ?_ ?_ ?_); exact rfl; exact rfl; (conv => arg 1; whnf)) | ((with_reducible apply ops_take); exact rfl; exact rfl; exact rfl; exact rfl; (conv => arg 1; whnf)) | ((with_reducible apply ops_skip); exact rfl; exact rfl; exact rfl; exact rfl) | ((with_reducible refine goT_ret ?_)) | ((with_reducible refine goT_put ?_); (conv => arg 1; whnf)) | ((with_reducible apply goT_get); exact rfl; (conv => arg 1; whnf)) | ((with_reducible refine goT_req ?_ ?_); exact (of_decide_eq_true rfl); (conv => arg 1; whnf)) | ((with_reducible refine goT_req ?_ ?_); exact trivial; (conv => arg 1; whnf)) | ((with_reducible refine goT_req ?_ ?_); exact rfl; (conv => arg 1; whnf)) | ((with_reducible refine goT_reqP ?_ ?_); exact rfl; (conv => arg 1; whnf)) | ((with_reducible refine d_step ?_ ?_); kernel_rfl) | ((with_reducible refine d_nil ?_)) | ((with_reducible refine d_cons ?_ ?_ ?_); exact rfl; exact rfl; (conv => arg 1; whnf)) | ((conv => arg 6; whnf); (with_reducible refine d_cons ?_ ?_ ?_); exact rfl; exact rfl; (conv => arg 1; whnf)) | ((conv => arg 5; whnf); (with_reducible refine ops_cons ?_ ?_ ?_); exact rfl; exact rfl; (conv => arg 1; whnf)) | ((with_reducible apply d_take); exact rfl; exact rfl; exact rfl; exact rfl; (conv => arg 1; whnf)) | ((with_reducible apply d_skip); exact rfl; exact rfl; exact rfl; exact rfl; (first | exact rfl | kernel_rfl)) | ((conv => arg 6; whnf); (with_reducible apply d_take); exact rfl; exact rfl; exact rfl; exact rfl; (conv => arg 1; whnf)) | ((conv => arg 6; whnf); (with_reducible apply d_skip); exact rfl; exact rfl; exact rfl; exact rfl; (first | exact rfl | kernel_rfl)) | ((with_reducible refine st_regionD ?_ ?_); kernel_rfl; (conv => arg 6; whnf)) | ((with_reducible refine st_seq ?_)) | ((with_reducible refine st_region rfl rfl ?_); (conv => arg 5; whnf)) | ((with_reducible refine st_block ?_)) | ((with_reducible refine st_skip ?_)) | ((with_reducible refine st_exit ?_)) | ((with_reducible refine st_ret ?_)) | ((with_reducible refine k_seq ?_)) | ((with_reducible refine k_seqX ?_)) | ((with_reducible refine k_seqR ?_)) | ((with_reducible refine k_block ?_)) | ((with_reducible refine k_blockX ?_)) | ((with_reducible refine k_blockY ?_ ?_); exact rfl) | ((with_reducible refine k_blockR ?_)) | ((with_reducible refine k_loopX ?_)) | ((with_reducible refine k_loopR ?_)) | ((with_reducible refine st_condT ?_ ?_); exact rfl) | ((with_reducible refine st_condF ?_ ?_); exact rfl)))
          (refine goT_req (recs_pre (s := 4) (fun _ => rfl) hit (by decide)) ?_; (conv => arg 1; whnf)); (repeat (first | ((with_reducible refine go_ret ?_)) | ((with_reducible refine go_put ?_); (conv => arg 1; whnf)) | ((with_reducible apply go_get); exact rfl; (conv => arg 1; whnf)) | ((with_reducible refine go_req ?_ ?_); exact (of_decide_eq_true rfl); (conv => arg 1; whnf)) | ((with_reducible refine go_req ?_ ?_); exact trivial; (conv => arg 1; whnf)) | ((with_reducible refine go_req ?_ ?_); exact rfl; (conv => arg 1; whnf)) | ((with_reducible refine go_reqP ?_ ?_); exact rfl; (conv => arg 1; whnf)) | ((with_reducible refine ops_nil ?_)) | ((with_reducible refine ops_cons ?_ ?_ ?_); exact rfl; exact rfl; (conv => arg 1; whnf)) | ((with_reducible apply ops_take); exact rfl; exact rfl; exact rfl; exact rfl; (conv => arg 1; whnf)) | ((with_reducible apply ops_skip); exact rfl; exact rfl; exact rfl; exact rfl) | ((with_reducible refine goT_ret ?_)) | ((with_reducible refine goT_put ?_); (conv => arg 1; whnf)) | ((with_reducible apply goT_get); exact rfl; (conv => arg 1; whnf)) | ((with_reducible refine goT_req ?_ ?_); exact (of_decide_eq_true rfl); (conv => arg 1; whnf)) | ((with_reducible refine goT_req ?_ ?_); exact trivial; (conv => arg 1; whnf)) | ((with_reducible refine goT_req ?_ ?_); exact rfl; (conv => arg 1; whnf)) | ((with_reducible refine goT_reqP ?_ ?_); exact rfl; (conv => arg 1; whnf)) | ((with_reducible refine d_step ?_ ?_); kernel_rfl) | ((with_reducible refine d_nil ?_)) | ((with_reducible refine d_cons ?_ ?_ ?_); exact rfl; exact rfl; (conv => arg 1; whnf)) | ((conv => arg 6; whnf); (with_reducible refine d_cons ?_ ?_ ?_); exact rfl; exact rfl; (conv => arg 1; whnf)) | ((conv => arg 5; whnf); (with_reducible refine ops_cons ?_ ?_ ?_); exact rfl; exact rfl; (conv => arg 1; whnf)) | ((with_reducible apply d_take); exact rfl; exact rfl; exact rfl; exact rfl; (conv => arg 1; whnf)) | ((with_reducible apply d_skip); exact rfl; exact rfl; exact rfl; exact rfl; (first | exact rfl | kernel_rfl)) | ((conv => arg 6; whnf); (with_reducible apply d_take); exact rfl; exact rfl; exact rfl; exact rfl; (conv => arg 1; whnf)) | ((conv => arg 6; whnf); (with_reducible apply d_skip); exact rfl; exact rfl; exact rfl; exact rfl; (first | exact rfl | kernel_rfl)) | ((with_reducible refine st_regionD ?_ ?_); kernel_rfl; (conv => arg 6; whnf)) | ((with_reducible refine st_seq ?_)) | ((with_reducible refine st_region rfl rfl ?_); (conv => arg 5; whnf)) | ((with_reducible refine st_block ?_)) | ((with_reducible refine st_skip ?_)) | ((with_reducible refine st_exit ?_)) | ((with_reducible refine st_ret ?_)) | ((with_reducible refine k_seq ?_)) | ((with_reducible refine k_seqX ?_)) | ((with_reducible refine k_seqR ?_)) | ((with_reducible refine k_block ?_)) | ((with_reducible refine k_blockX ?_)) | ((with_reducible refine k_blockY ?_ ?_); exact rfl) | ((with_reducible refine k_blockR ?_)) | ((with_reducible refine k_loopX ?_)) | ((with_reducible refine k_loopR ?_)) | ((with_reducible refine st_condT ?_ ?_); exact rfl) | ((with_reducible refine st_condF ?_ ?_); exact rfl)))
          refine goT_req (recs_cell2_len (s := 4) (o := 2) (p := 1) (fun _ => rfl) hit (by decide)) ?_
          show (RM.retF ((((((recs eSky l).drop (k * 4)).drop 2).drop 1)[0]?).getD .top)).goT _ _ _ _
          rw [recs_cell2 (s := 4) (fun _ => rfl) l k 2 1 hit (by decide)]
          (conv => arg 1; whnf)
          (repeat (first | ((with_reducible refine go_ret ?_)) | ((with_reducible refine go_put ?_); (conv => arg 1; whnf)) | ((with_reducible apply go_get); exact rfl; (conv => arg 1; whnf)) | ((with_reducible refine go_req ?_ ?_); exact (of_decide_eq_true rfl); (conv => arg 1; whnf)) | ((with_reducible refine go_req ?_ ?_); exact trivial; (conv => arg 1; whnf)) | ((with_reducible refine go_req ?_ ?_); exact rfl; (conv => arg 1; whnf)) | ((with_reducible refine go_reqP ?_ ?_); exact rfl; (conv => arg 1; whnf)) | ((with_reducible refine ops_nil ?_)) | ((with_reducible refine ops_cons ?_ ?_ ?_); exact rfl; exact rfl; (conv => arg 1; whnf)) | ((with_reducible apply ops_take); exact rfl; exact rfl; exact rfl; exact rfl; (conv => arg 1; whnf)) | ((with_reducible apply ops_skip); exact rfl; exact rfl; exact rfl; exact rfl) | ((with_reducible refine goT_ret ?_)) | ((with_reducible refine goT_put ?_); (conv => arg 1; whnf)) | ((with_reducible apply goT_get); exact rfl; (conv => arg 1; whnf)) | ((with_reducible refine goT_req ?_ ?_); exact (of_decide_eq_true rfl); (conv => arg 1; whnf)) | ((with_reducible refine goT_req ?_ ?_); exact trivial; (conv => arg 1; whnf)) | ((with_reducible refine goT_req ?_ ?_); exact rfl; (conv => arg 1; whnf)) | ((with_reducible refine goT_reqP ?_ ?_); exact rfl; (conv => arg 1; whnf)) | ((with_reducible refine d_step ?_ ?_); kernel_rfl) | ((with_reducible refine d_nil ?_)) | ((with_reducible refine d_cons ?_ ?_ ?_); exact rfl; exact rfl; (conv => arg 1; whnf)) | ((conv => arg 6; whnf); (with_reducible refine d_cons ?_ ?_ ?_); exact rfl; exact rfl; (conv => arg 1; whnf)) | ((conv => arg 5; whnf); (with_reducible refine ops_cons ?_ ?_ ?_); exact rfl; exact rfl; (conv => arg 1; whnf)) | ((with_reducible apply d_take); exact rfl; exact rfl; exact rfl; exact rfl; (conv => arg 1; whnf)) | ((with_reducible apply d_skip); exact rfl; exact rfl; exact rfl; exact rfl; (first | exact rfl | kernel_rfl)) | ((conv => arg 6; whnf); (with_reducible apply d_take); exact rfl; exact rfl; exact rfl; exact rfl; (conv => arg 1; whnf)) | ((conv => arg 6; whnf); (with_reducible apply d_skip); exact rfl; exact rfl; exact rfl; exact rfl; (first | exact rfl | kernel_rfl)) | ((with_reducible refine st_regionD ?_ ?_); kernel_rfl; (conv => arg 6; whnf)) | ((with_reducible refine st_seq ?_)) | ((with_reducible refine st_region rfl rfl ?_); (conv => arg 5; whnf)) | ((with_reducible refine st_block ?_)) | ((with_reducible refine st_skip ?_)) | ((with_reducible refine st_exit ?_)) | ((with_reducible refine st_ret ?_)) | ((with_reducible refine k_seq ?_)) | ((with_reducible refine k_seqX ?_)) | ((with_reducible refine k_seqR ?_)) | ((with_reducible refine k_block ?_)) | ((with_reducible refine k_blockX ?_)) | ((with_reducible refine k_blockY ?_ ?_); exact rfl) | ((with_reducible refine k_blockR ?_)) | ((with_reducible refine k_loopX ?_)) | ((with_reducible refine k_loopR ?_)) | ((with_reducible refine st_condT ?_ ?_); exact rfl) | ((with_reducible refine st_condF ?_ ?_); exact rfl)))
          (refine goT_req (show k * 1 = (ints (los (l.take k))).length ∧ k + 1 ≤ 2 ^ 63 - 1 ∧ (k + 1) * 8 ≤ 140737488355328 by simp [ints, los]; omega) ?_; (conv => arg 1; whnf))
          (repeat (first | ((with_reducible refine go_ret ?_)) | ((with_reducible refine go_put ?_); (conv => arg 1; whnf)) | ((with_reducible apply go_get); exact rfl; (conv => arg 1; whnf)) | ((with_reducible refine go_req ?_ ?_); exact (of_decide_eq_true rfl); (conv => arg 1; whnf)) | ((with_reducible refine go_req ?_ ?_); exact trivial; (conv => arg 1; whnf)) | ((with_reducible refine go_req ?_ ?_); exact rfl; (conv => arg 1; whnf)) | ((with_reducible refine go_reqP ?_ ?_); exact rfl; (conv => arg 1; whnf)) | ((with_reducible refine ops_nil ?_)) | ((with_reducible refine ops_cons ?_ ?_ ?_); exact rfl; exact rfl; (conv => arg 1; whnf)) | ((with_reducible apply ops_take); exact rfl; exact rfl; exact rfl; exact rfl; (conv => arg 1; whnf)) | ((with_reducible apply ops_skip); exact rfl; exact rfl; exact rfl; exact rfl) | ((with_reducible refine goT_ret ?_)) | ((with_reducible refine goT_put ?_); (conv => arg 1; whnf)) | ((with_reducible apply goT_get); exact rfl; (conv => arg 1; whnf)) | ((with_reducible refine goT_req ?_ ?_); exact (of_decide_eq_true rfl); (conv => arg 1; whnf)) | ((with_reducible refine goT_req ?_ ?_); exact trivial; (conv => arg 1; whnf)) | ((with_reducible refine goT_req ?_ ?_); exact rfl; (conv => arg 1; whnf)) | ((with_reducible refine goT_reqP ?_ ?_); exact rfl; (conv => arg 1; whnf)) | ((with_reducible refine d_step ?_ ?_); kernel_rfl) | ((with_reducible refine d_nil ?_)) | ((with_reducible refine d_cons ?_ ?_ ?_); exact rfl; exact rfl; (conv => arg 1; whnf)) | ((conv => arg 6; whnf); (with_reducible refine d_cons ?_ ?_ ?_); exact rfl; exact rfl; (conv => arg 1; whnf)) | ((conv => arg 5; whnf); (with_reducible refine ops_cons ?_ ?_ ?_); exact rfl; exact rfl; (conv => arg 1; whnf)) | ((with_reducible apply d_take); exact rfl; exact rfl; exact rfl; exact rfl; (conv => arg 1; whnf)) | ((with_reducible apply d_skip); exact rfl; exact rfl; exact rfl; exact rfl; (first | exact rfl | kernel_rfl)) | ((conv => arg 6; whnf); (with_reducible apply d_take); exact rfl; exact rfl; exact rfl; exact rfl; (conv => arg 1; whnf)) | ((conv => arg 6; whnf); (with_reducible apply d_skip); exact rfl; exact rfl; exact rfl; exact rfl; (first | exact rfl | kernel_rfl)) | ((with_reducible refine st_regionD ?_ ?_); kernel_rfl; (conv => arg 6; whnf)) | ((with_reducible refine st_seq ?_)) | ((with_reducible refine st_region rfl rfl ?_); (conv => arg 5; whnf)) | ((with_reducible refine st_block ?_)) | ((with_reducible refine st_skip ?_)) | ((with_reducible refine st_exit ?_)) | ((with_reducible refine st_ret ?_)) | ((with_reducible refine k_seq ?_)) | ((with_reducible refine k_seqX ?_)) | ((with_reducible refine k_seqR ?_)) | ((with_reducible refine k_block ?_)) | ((with_reducible refine k_blockX ?_)) | ((with_reducible refine k_blockY ?_ ?_); exact rfl) | ((with_reducible refine k_blockR ?_)) | ((with_reducible refine k_loopX ?_)) | ((with_reducible refine k_loopR ?_)) | ((with_reducible refine st_condT ?_ ?_); exact rfl) | ((with_reducible refine st_condF ?_ ?_); exact rfl)))
          rw [ints_snoc]
          have hlos : (los (l.take k) ++ [l[k].heat.hi]).length = k + 1 := by simp [los]; omega
          (refine goT_req (show (k + 1) * 1 = (ints (los (l.take k) ++ [l[k].heat.hi])).length by rw [ints_len, hlos]; omega) ?_; (conv => arg 1; whnf))
          (repeat (first | ((with_reducible refine go_ret ?_)) | ((with_reducible refine go_put ?_); (conv => arg 1; whnf)) | ((with_reducible apply go_get); exact rfl; (conv => arg 1; whnf)) | ((with_reducible refine go_req ?_ ?_); exact (of_decide_eq_true rfl); (conv => arg 1; whnf)) | ((with_reducible refine go_req ?_ ?_); exact trivial; (conv => arg 1; whnf)) | ((with_reducible refine go_req ?_ ?_); exact rfl; (conv => arg 1; whnf)) | ((with_reducible refine go_reqP ?_ ?_); exact rfl; (conv => arg 1; whnf)) | ((with_reducible refine ops_nil ?_)) | ((with_reducible refine ops_cons ?_ ?_ ?_); exact rfl; exact rfl; (conv => arg 1; whnf)) | ((with_reducible apply ops_take); exact rfl; exact rfl; exact rfl; exact rfl; (conv => arg 1; whnf)) | ((with_reducible apply ops_skip); exact rfl; exact rfl; exact rfl; exact rfl) | ((with_reducible refine goT_ret ?_)) | ((with_reducible refine goT_put ?_); (conv => arg 1; whnf)) | ((with_reducible apply goT_get); exact rfl; (conv => arg 1; whnf)) | ((with_reducible refine goT_req ?_ ?_); exact (of_decide_eq_true rfl); (conv => arg 1; whnf)) | ((with_reducible refine goT_req ?_ ?_); exact trivial; (conv => arg 1; whnf)) | ((with_reducible refine goT_req ?_ ?_); exact rfl; (conv => arg 1; whnf)) | ((with_reducible refine goT_reqP ?_ ?_); exact rfl; (conv => arg 1; whnf)) | ((with_reducible refine d_step ?_ ?_); kernel_rfl) | ((with_reducible refine d_nil ?_)) | ((with_reducible refine d_cons ?_ ?_ ?_); exact rfl; exact rfl; (conv => arg 1; whnf)) | ((conv => arg 6; whnf); (with_reducible refine d_cons ?_ ?_ ?_); exact rfl; exact rfl; (conv => arg 1; whnf)) | ((conv => arg 5; whnf); (with_reducible refine ops_cons ?_ ?_ ?_); exact rfl; exact rfl; (conv => arg 1; whnf)) | ((with_reducible apply d_take); exact rfl; exact rfl; exact rfl; exact rfl; (conv => arg 1; whnf)) | ((with_reducible apply d_skip); exact rfl; exact rfl; exact rfl; exact rfl; (first | exact rfl | kernel_rfl)) | ((conv => arg 6; whnf); (with_reducible apply d_take); exact rfl; exact rfl; exact rfl; exact rfl; (conv => arg 1; whnf)) | ((conv => arg 6; whnf); (with_reducible apply d_skip); exact rfl; exact rfl; exact rfl; exact rfl; (first | exact rfl | kernel_rfl)) | ((with_reducible refine st_regionD ?_ ?_); kernel_rfl; (conv => arg 6; whnf)) | ((with_reducible refine st_seq ?_)) | ((with_reducible refine st_region rfl rfl ?_); (conv => arg 5; whnf)) | ((with_reducible refine st_block ?_)) | ((with_reducible refine st_skip ?_)) | ((with_reducible refine st_exit ?_)) | ((with_reducible refine st_ret ?_)) | ((with_reducible refine k_seq ?_)) | ((with_reducible refine k_seqX ?_)) | ((with_reducible refine k_seqR ?_)) | ((with_reducible refine k_block ?_)) | ((with_reducible refine k_blockX ?_)) | ((with_reducible refine k_blockY ?_ ?_); exact rfl) | ((with_reducible refine k_blockR ?_)) | ((with_reducible refine k_loopX ?_)) | ((with_reducible refine k_loopR ?_)) | ((with_reducible refine st_condT ?_ ?_); exact rfl) | ((with_reducible refine st_condF ?_ ?_); exact rfl)))
          (refine goT_exi (c.melt, c.snow.hi, los (l.take k) ++ [l[k].heat.hi]) ?_ ?_; exact ⟨by show _ = [_, _, V.sl (ints (los (l.take k) ++ [l[k].heat.hi])) (los (l.take k) ++ [l[k].heat.hi]).length]; rw [hlos], show (los (l.take k) ++ [l[k].heat.hi]).length ≤ 1000000 by omega⟩; (conv => arg 1; whnf))
          (repeat (first | ((with_reducible refine go_ret ?_)) | ((with_reducible refine go_put ?_); (conv => arg 1; whnf)) | ((with_reducible apply go_get); exact rfl; (conv => arg 1; whnf)) | ((with_reducible refine go_req ?_ ?_); exact (of_decide_eq_true rfl); (conv => arg 1; whnf)) | ((with_reducible refine go_req ?_ ?_); exact trivial; (conv => arg 1; whnf)) | ((with_reducible refine go_req ?_ ?_); exact rfl; (conv => arg 1; whnf)) | ((with_reducible refine go_reqP ?_ ?_); exact rfl; (conv => arg 1; whnf)) | ((with_reducible refine ops_nil ?_)) | ((with_reducible refine ops_cons ?_ ?_ ?_); exact rfl; exact rfl; (conv => arg 1; whnf)) | ((with_reducible apply ops_take); exact rfl; exact rfl; exact rfl; exact rfl; (conv => arg 1; whnf)) | ((with_reducible apply ops_skip); exact rfl; exact rfl; exact rfl; exact rfl) | ((with_reducible refine goT_ret ?_)) | ((with_reducible refine goT_put ?_); (conv => arg 1; whnf)) | ((with_reducible apply goT_get); exact rfl; (conv => arg 1; whnf)) | ((with_reducible refine goT_req ?_ ?_); exact (of_decide_eq_true rfl); (conv => arg 1; whnf)) | ((with_reducible refine goT_req ?_ ?_); exact trivial; (conv => arg 1; whnf)) | ((with_reducible refine goT_req ?_ ?_); exact rfl; (conv => arg 1; whnf)) | ((with_reducible refine goT_reqP ?_ ?_); exact rfl; (conv => arg 1; whnf)) | ((with_reducible refine d_step ?_ ?_); kernel_rfl) | ((with_reducible refine d_nil ?_)) | ((with_reducible refine d_cons ?_ ?_ ?_); exact rfl; exact rfl; (conv => arg 1; whnf)) | ((conv => arg 6; whnf); (with_reducible refine d_cons ?_ ?_ ?_); exact rfl; exact rfl; (conv => arg 1; whnf)) | ((conv => arg 5; whnf); (with_reducible refine ops_cons ?_ ?_ ?_); exact rfl; exact rfl; (conv => arg 1; whnf)) | ((with_reducible apply d_take); exact rfl; exact rfl; exact rfl; exact rfl; (conv => arg 1; whnf)) | ((with_reducible apply d_skip); exact rfl; exact rfl; exact rfl; exact rfl; (first | exact rfl | kernel_rfl)) | ((conv => arg 6; whnf); (with_reducible apply d_take); exact rfl; exact rfl; exact rfl; exact rfl; (conv => arg 1; whnf)) | ((conv => arg 6; whnf); (with_reducible apply d_skip); exact rfl; exact rfl; exact rfl; exact rfl; (first | exact rfl | kernel_rfl)) | ((with_reducible refine st_regionD ?_ ?_); kernel_rfl; (conv => arg 6; whnf)) | ((with_reducible refine st_seq ?_)) | ((with_reducible refine st_region rfl rfl ?_); (conv => arg 5; whnf)) | ((with_reducible refine st_block ?_)) | ((with_reducible refine st_skip ?_)) | ((with_reducible refine st_exit ?_)) | ((with_reducible refine st_ret ?_)) | ((with_reducible refine k_seq ?_)) | ((with_reducible refine k_seqX ?_)) | ((with_reducible refine k_seqR ?_)) | ((with_reducible refine k_block ?_)) | ((with_reducible refine k_blockX ?_)) | ((with_reducible refine k_blockY ?_ ?_); exact rfl) | ((with_reducible refine k_blockR ?_)) | ((with_reducible refine k_loopX ?_)) | ((with_reducible refine k_loopR ?_)) | ((with_reducible refine st_condT ?_ ?_); exact rfl) | ((with_reducible refine st_condF ?_ ?_); exact rfl)))
          have mlos : (meltsGo c.melt c.snow.hi (los (l.take k) ++ [l[k].heat.hi])).length = k + 1 := by rw [meltsGo_length, hlos]
          (refine goT_req ((show 0 ≤ (k : Int) ∧ (k : Int) < ((los (l.take k) ++ [l[k].heat.hi]).length : Int) ∧ (los (l.take k) ++ [l[k].heat.hi]).length * 1 = (ints (meltsGo c.melt c.snow.hi (los (l.take k) ++ [l[k].heat.hi]))).length ∧ 0 < 1 by rw [ints_len, mlos, hlos]; omega)) ?_; (conv => arg 1; whnf)); (repeat (first | ((with_reducible refine go_ret ?_)) | ((with_reducible refine go_put ?_); (conv => arg 1; whnf)) | ((with_reducible apply go_get); exact rfl; (conv => arg 1; whnf)) | ((with_reducible refine go_req ?_ ?_); exact (of_decide_eq_true rfl); (conv => arg 1; whnf)) | ((with_reducible refine go_req ?_ ?_); exact trivial; (conv => arg 1; whnf)) | ((with_reducible refine go_req ?_ ?_); exact rfl; (conv => arg 1; whnf)) | ((with_reducible refine go_reqP ?_ ?_); exact rfl; (conv => arg 1; whnf)) | ((with_reducible refine ops_nil ?_)) | ((with_reducible refine ops_cons ?_ ?_ ?_); exact rfl; exact rfl; (conv => arg 1; whnf)) | ((with_reducible apply ops_take); exact rfl; exact rfl; exact rfl; exact rfl; (conv => arg 1; whnf)) | ((with_reducible apply ops_skip); exact rfl; exact rfl; exact rfl; exact rfl) | ((with_reducible refine goT_ret ?_)) | ((with_reducible refine goT_put ?_); (conv => arg 1; whnf)) | ((with_reducible apply goT_get); exact rfl; (conv => arg 1; whnf)) | ((with_reducible refine goT_req ?_ ?_); exact (of_decide_eq_true rfl); (conv => arg 1; whnf)) | ((with_reducible refine goT_req ?_ ?_); exact trivial; (conv => arg 1; whnf)) | ((with_reducible refine goT_req ?_ ?_); exact rfl; (conv => arg 1; whnf)) | ((with_reducible refine goT_reqP ?_ ?_); exact rfl; (conv => arg 1; whnf)) | ((with_reducible refine d_step ?_ ?_); kernel_rfl) | ((with_reducible refine d_nil ?_)) | ((with_reducible refine d_cons ?_ ?_ ?_); exact rfl; exact rfl; (conv => arg 1; whnf)) | ((conv => arg 6; whnf); (with_reducible refine d_cons ?_ ?_ ?_); exact rfl; exact rfl; (conv => arg 1; whnf)) | ((conv => arg 5; whnf); (with_reducible refine ops_cons ?_ ?_ ?_); exact rfl; exact rfl; (conv => arg 1; whnf)) | ((with_reducible apply d_take); exact rfl; exact rfl; exact rfl; exact rfl; (conv => arg 1; whnf)) | ((with_reducible apply d_skip); exact rfl; exact rfl; exact rfl; exact rfl; (first | exact rfl | kernel_rfl)) | ((conv => arg 6; whnf); (with_reducible apply d_take); exact rfl; exact rfl; exact rfl; exact rfl; (conv => arg 1; whnf)) | ((conv => arg 6; whnf); (with_reducible apply d_skip); exact rfl; exact rfl; exact rfl; exact rfl; (first | exact rfl | kernel_rfl)) | ((with_reducible refine st_regionD ?_ ?_); kernel_rfl; (conv => arg 6; whnf)) | ((with_reducible refine st_seq ?_)) | ((with_reducible refine st_region rfl rfl ?_); (conv => arg 5; whnf)) | ((with_reducible refine st_block ?_)) | ((with_reducible refine st_skip ?_)) | ((with_reducible refine st_exit ?_)) | ((with_reducible refine st_ret ?_)) | ((with_reducible refine k_seq ?_)) | ((with_reducible refine k_seqX ?_)) | ((with_reducible refine k_seqR ?_)) | ((with_reducible refine k_block ?_)) | ((with_reducible refine k_blockX ?_)) | ((with_reducible refine k_blockY ?_ ?_); exact rfl) | ((with_reducible refine k_blockR ?_)) | ((with_reducible refine k_loopX ?_)) | ((with_reducible refine k_loopR ?_)) | ((with_reducible refine st_condT ?_ ?_); exact rfl) | ((with_reducible refine st_condF ?_ ?_); exact rfl)))
          refine goT_req (show 0 < ((ints (meltsGo c.melt c.snow.hi (los (l.take k) ++ [l[k].heat.hi]))).drop (k * 1)).length by rw [List.length_drop, ints_len, mlos]; omega) ?_
          show (RM.retF ((((ints (meltsGo c.melt c.snow.hi (los (l.take k) ++ [l[k].heat.hi]))).drop (k * 1))[0]?).getD .top)).goT _ _ _ _
          rw [ints_getD _ k (by omega)]
          (conv => arg 1; whnf)
          (repeat (first | ((with_reducible refine go_ret ?_)) | ((with_reducible refine go_put ?_); (conv => arg 1; whnf)) | ((with_reducible apply go_get); exact rfl; (conv => arg 1; whnf)) | ((with_reducible refine go_req ?_ ?_); exact (of_decide_eq_true rfl); (conv => arg 1; whnf)) | ((with_reducible refine go_req ?_ ?_); exact trivial; (conv => arg 1; whnf)) | ((with_reducible refine go_req ?_ ?_); exact rfl; (conv => arg 1; whnf)) | ((with_reducible refine go_reqP ?_ ?_); exact rfl; (conv => arg 1; whnf)) | ((with_reducible refine ops_nil ?_)) | ((with_reducible refine ops_cons ?_ ?_ ?_); exact rfl; exact rfl; (conv => arg 1; whnf)) | ((with_reducible apply ops_take); exact rfl; exact rfl; exact rfl; exact rfl; (conv => arg 1; whnf)) | ((with_reducible apply ops_skip); exact rfl; exact rfl; exact rfl; exact rfl) | ((with_reducible refine goT_ret ?_)) | ((with_reducible refine goT_put ?_); (conv => arg 1; whnf)) | ((with_reducible apply goT_get); exact rfl; (conv => arg 1; whnf)) | ((with_reducible refine goT_req ?_ ?_); exact (of_decide_eq_true rfl); (conv => arg 1; whnf)) | ((with_reducible refine goT_req ?_ ?_); exact trivial; (conv => arg 1; whnf)) | ((with_reducible refine goT_req ?_ ?_); exact rfl; (conv => arg 1; whnf)) | ((with_reducible refine goT_reqP ?_ ?_); exact rfl; (conv => arg 1; whnf)) | ((with_reducible refine d_step ?_ ?_); kernel_rfl) | ((with_reducible refine d_nil ?_)) | ((with_reducible refine d_cons ?_ ?_ ?_); exact rfl; exact rfl; (conv => arg 1; whnf)) | ((conv => arg 6; whnf); (with_reducible refine d_cons ?_ ?_ ?_); exact rfl; exact rfl; (conv => arg 1; whnf)) | ((conv => arg 5; whnf); (with_reducible refine ops_cons ?_ ?_ ?_); exact rfl; exact rfl; (conv => arg 1; whnf)) | ((with_reducible apply d_take); exact rfl; exact rfl; exact rfl; exact rfl; (conv => arg 1; whnf)) | ((with_reducible apply d_skip); exact rfl; exact rfl; exact rfl; exact rfl; (first | exact rfl | kernel_rfl)) | ((conv => arg 6; whnf); (with_reducible apply d_take); exact rfl; exact rfl; exact rfl; exact rfl; (conv => arg 1; whnf)) | ((conv => arg 6; whnf); (with_reducible apply d_skip); exact rfl; exact rfl; exact rfl; exact rfl; (first | exact rfl | kernel_rfl)) | ((with_reducible refine st_regionD ?_ ?_); kernel_rfl; (conv => arg 6; whnf)) | ((with_reducible refine st_seq ?_)) | ((with_reducible refine st_region rfl rfl ?_); (conv => arg 5; whnf)) | ((with_reducible refine st_block ?_)) | ((with_reducible refine st_skip ?_)) | ((with_reducible refine st_exit ?_)) | ((with_reducible refine st_ret ?_)) | ((with_reducible refine k_seq ?_)) | ((with_reducible refine k_seqX ?_)) | ((with_reducible refine k_seqR ?_)) | ((with_reducible refine k_block ?_)) | ((with_reducible refine k_blockX ?_)) | ((with_reducible refine k_blockY ?_ ?_); exact rfl) | ((with_reducible refine k_blockR ?_)) | ((with_reducible refine k_loopX ?_)) | ((with_reducible refine k_loopR ?_)) | ((with_reducible refine st_condT ?_ ?_); exact rfl) | ((with_reducible refine st_condF ?_ ?_); exact rfl)))
          (refine goT_req (recs_pre (s := 4) (fun _ => rfl) hit (by decide)) ?_; (conv => arg 1; whnf)); (repeat (first | ((with_reducible refine go_ret ?_)) | ((with_reducible refine go_put ?_); (conv => arg 1; whnf)) | ((with_reducible apply go_get); exact rfl; (conv => arg 1; whnf)) | ((with_reducible refine go_req ?_ ?_); exact (of_decide_eq_true rfl); (conv => arg 1; whnf)) | ((with_reducible refine go_req ?_ ?_); exact trivial; (conv => arg 1; whnf)) | ((with_reducible refine go_req ?_ ?_); exact rfl; (conv => arg 1; whnf)) | ((with_reducible refine go_reqP ?_ ?_); exact rfl; (conv => arg 1; whnf)) | ((with_reducible refine ops_nil ?_)) | ((with_reducible refine ops_cons ?_ ?_ ?_); exact rfl; exact rfl; (conv => arg 1; whnf)) | ((with_reducible apply ops_take); exact rfl; exact rfl; exact rfl; exact rfl; (conv => arg 1; whnf)) | ((with_reducible apply ops_skip); exact rfl; exact rfl; exact rfl; exact rfl) | ((with_reducible refine goT_ret ?_)) | ((with_reducible refine goT_put ?_); (conv => arg 1; whnf)) | ((with_reducible apply goT_get); exact rfl; (conv => arg 1; whnf)) | ((with_reducible refine goT_req ?_ ?_); exact (of_decide_eq_true rfl); (conv => arg 1; whnf)) | ((with_reducible refine goT_req ?_ ?_); exact trivial; (conv => arg 1; whnf)) | ((with_reducible refine goT_req ?_ ?_); exact rfl; (conv => arg 1; whnf)) | ((with_reducible refine goT_reqP ?_ ?_); exact rfl; (conv => arg 1; whnf)) | ((with_reducible refine d_step ?_ ?_); kernel_rfl) | ((with_reducible refine d_nil ?_)) | ((with_reducible refine d_cons ?_ ?_ ?_); exact rfl; exact rfl; (conv => arg 1; whnf)) | ((conv => arg 6; whnf); (with_reducible refine d_cons ?_ ?_ ?_); exact rfl; exact rfl; (conv => arg 1; whnf)) | ((conv => arg 5; whnf); (with_reducible refine ops_cons ?_ ?_ ?_); exact rfl; exact rfl; (conv => arg 1; whnf)) | ((with_reducible apply d_take); exact rfl; exact rfl; exact rfl; exact rfl; (conv => arg 1; whnf)) | ((with_reducible apply d_skip); exact rfl; exact rfl; exact rfl; exact rfl; (first | exact rfl | kernel_rfl)) | ((conv => arg 6; whnf); (with_reducible apply d_take); exact rfl; exact rfl; exact rfl; exact rfl; (conv => arg 1; whnf)) | ((conv => arg 6; whnf); (with_reducible apply d_skip); exact rfl; exact rfl; exact rfl; exact rfl; (first | exact rfl | kernel_rfl)) | ((with_reducible refine st_regionD ?_ ?_); kernel_rfl; (conv => arg 6; whnf)) | ((with_reducible refine st_seq ?_)) | ((with_reducible refine st_region rfl rfl ?_); (conv => arg 5; whnf)) | ((with_reducible refine st_block ?_)) | ((with_reducible refine st_skip ?_)) | ((with_reducible refine st_exit ?_)) | ((with_reducible refine st_ret ?_)) | ((with_reducible refine k_seq ?_)) | ((with_reducible refine k_seqX ?_)) | ((with_reducible refine k_seqR ?_)) | ((with_reducible refine k_block ?_)) | ((with_reducible refine k_blockX ?_)) | ((with_reducible refine k_blockY ?_ ?_); exact rfl) | ((with_reducible refine k_blockR ?_)) | ((with_reducible refine k_loopX ?_)) | ((with_reducible refine k_loopR ?_)) | ((with_reducible refine st_condT ?_ ?_); exact rfl) | ((with_reducible refine st_condF ?_ ?_); exact rfl)))
          refine goT_req (recs_cell2_len (s := 4) (o := 0) (p := 0) (fun _ => rfl) hit (by decide)) ?_
          show (RM.retF ((((((recs eSky l).drop (k * 4)).drop 0).drop 0)[0]?).getD .top)).goT _ _ _ _
          rw [recs_cell2 (s := 4) (fun _ => rfl) l k 0 0 hit (by decide)]
          (conv => arg 1; whnf)
          (repeat (first | ((with_reducible refine go_ret ?_)) | ((with_reducible refine go_put ?_); (conv => arg 1; whnf)) | ((with_reducible apply go_get); exact rfl; (conv => arg 1; whnf)) | ((with_reducible refine go_req ?_ ?_); exact (of_decide_eq_true rfl); (conv => arg 1; whnf)) | ((with_reducible refine go_req ?_ ?_); exact trivial; (conv => arg 1; whnf)) | ((with_reducible refine go_req ?_ ?_); exact rfl; (conv => arg 1; whnf)) | ((with_reducible refine go_reqP ?_ ?_); exact rfl; (conv => arg 1; whnf)) | ((with_reducible refine ops_nil ?_)) | ((with_reducible refine ops_cons ?_ ?_ ?_); exact rfl; exact rfl; (conv => arg 1; whnf)) | ((with_reducible apply ops_take); exact rfl; exact rfl; exact rfl; exact rfl; (conv => arg 1; whnf)) | ((with_reducible apply ops_skip); exact rfl; exact rfl; exact rfl; exact rfl) | ((with_reducible refine goT_ret ?_)) | ((with_reducible refine goT_put ?_); (conv => arg 1; whnf)) | ((with_reducible apply goT_get); exact rfl; (conv => arg 1; whnf)) | ((with_reducible refine goT_req ?_ ?_); exact (of_decide_eq_true rfl); (conv => arg 1; whnf)) | ((with_reducible refine goT_req ?_ ?_); exact trivial; (conv => arg 1; whnf)) | ((with_reducible refine goT_req ?_ ?_); exact rfl; (conv => arg 1; whnf)) | ((with_reducible refine goT_reqP ?_ ?_); exact rfl; (conv => arg 1; whnf)) | ((with_reducible refine d_step ?_ ?_); kernel_rfl) | ((with_reducible refine d_nil ?_)) | ((with_reducible refine d_cons ?_ ?_ ?_); exact rfl; exact rfl; (conv => arg 1; whnf)) | ((conv => arg 6; whnf); (with_reducible refine d_cons ?_ ?_ ?_); exact rfl; exact rfl; (conv => arg 1; whnf)) | ((conv => arg 5; whnf); (with_reducible refine ops_cons ?_ ?_ ?_); exact rfl; exact rfl; (conv => arg 1; whnf)) | ((with_reducible apply d_take); exact rfl; exact rfl; exact rfl; exact rfl; (conv => arg 1; whnf)) | ((with_reducible apply d_skip); exact rfl; exact rfl; exact rfl; exact rfl; (first | exact rfl | kernel_rfl)) | ((conv => arg 6; whnf); (with_reducible apply d_take); exact rfl; exact rfl; exact rfl; exact rfl; (conv => arg 1; whnf)) | ((conv => arg 6; whnf); (with_reducible apply d_skip); exact rfl; exact rfl; exact rfl; exact rfl; (first | exact rfl | kernel_rfl)) | ((with_reducible refine st_regionD ?_ ?_); kernel_rfl; (conv => arg 6; whnf)) | ((with_reducible refine st_seq ?_)) | ((with_reducible refine st_region rfl rfl ?_); (conv => arg 5; whnf)) | ((with_reducible refine st_block ?_)) | ((with_reducible refine st_skip ?_)) | ((with_reducible refine st_exit ?_)) | ((with_reducible refine st_ret ?_)) | ((with_reducible refine k_seq ?_)) | ((with_reducible refine k_seqX ?_)) | ((with_reducible refine k_seqR ?_)) | ((with_reducible refine k_block ?_)) | ((with_reducible refine k_blockX ?_)) | ((with_reducible refine k_blockY ?_ ?_); exact rfl) | ((with_reducible refine k_blockR ?_)) | ((with_reducible refine k_loopX ?_)) | ((with_reducible refine k_loopR ?_)) | ((with_reducible refine st_condT ?_ ?_); exact rfl) | ((with_reducible refine st_condF ?_ ?_); exact rfl)))
          (refine goT_exi (wr (wr (c.area * wr (l[k].rain.lo + refLeast c l k l[k])) * c.percent), 10) ?_ ?_; exact ⟨rfl, show (10 : Int) ≠ 0 by decide⟩; (conv => arg 1; whnf)); (repeat (first | ((with_reducible refine go_ret ?_)) | ((with_reducible refine go_put ?_); (conv => arg 1; whnf)) | ((with_reducible apply go_get); exact rfl; (conv => arg 1; whnf)) | ((with_reducible refine go_req ?_ ?_); exact (of_decide_eq_true rfl); (conv => arg 1; whnf)) | ((with_reducible refine go_req ?_ ?_); exact trivial; (conv => arg 1; whnf)) | ((with_reducible refine go_req ?_ ?_); exact rfl; (conv => arg 1; whnf)) | ((with_reducible refine go_reqP ?_ ?_); exact rfl; (conv => arg 1; whnf)) | ((with_reducible refine ops_nil ?_)) | ((with_reducible refine ops_cons ?_ ?_ ?_); exact rfl; exact rfl; (conv => arg 1; whnf)) | ((with_reducible apply ops_take); exact rfl; exact rfl; exact rfl; exact rfl; (conv => arg 1; whnf)) | ((with_reducible apply ops_skip); exact rfl; exact rfl; exact rfl; exact rfl) | ((with_reducible refine goT_ret ?_)) | ((with_reducible refine goT_put ?_); (conv => arg 1; whnf)) | ((with_reducible apply goT_get); exact rfl; (conv => arg 1; whnf)) | ((with_reducible refine goT_req ?_ ?_); exact (of_decide_eq_true rfl); (conv => arg 1; whnf)) | ((with_reducible refine goT_req ?_ ?_); exact trivial; (conv => arg 1; whnf)) | ((with_reducible refine goT_req ?_ ?_); exact rfl; (conv => arg 1; whnf)) | ((with_reducible refine goT_reqP ?_ ?_); exact rfl; (conv => arg 1; whnf)) | ((with_reducible refine d_step ?_ ?_); kernel_rfl) | ((with_reducible refine d_nil ?_)) | ((with_reducible refine d_cons ?_ ?_ ?_); exact rfl; exact rfl; (conv => arg 1; whnf)) | ((conv => arg 6; whnf); (with_reducible refine d_cons ?_ ?_ ?_); exact rfl; exact rfl; (conv => arg 1; whnf)) | ((conv => arg 5; whnf); (with_reducible refine ops_cons ?_ ?_ ?_); exact rfl; exact rfl; (conv => arg 1; whnf)) | ((with_reducible apply d_take); exact rfl; exact rfl; exact rfl; exact rfl; (conv => arg 1; whnf)) | ((with_reducible apply d_skip); exact rfl; exact rfl; exact rfl; exact rfl; (first | exact rfl | kernel_rfl)) | ((conv => arg 6; whnf); (with_reducible apply d_take); exact rfl; exact rfl; exact rfl; exact rfl; (conv => arg 1; whnf)) | ((conv => arg 6; whnf); (with_reducible apply d_skip); exact rfl; exact rfl; exact rfl; exact rfl; (first | exact rfl | kernel_rfl)) | ((with_reducible refine st_regionD ?_ ?_); kernel_rfl; (conv => arg 6; whnf)) | ((with_reducible refine st_seq ?_)) | ((with_reducible refine st_region rfl rfl ?_); (conv => arg 5; whnf)) | ((with_reducible refine st_block ?_)) | ((with_reducible refine st_skip ?_)) | ((with_reducible refine st_exit ?_)) | ((with_reducible refine st_ret ?_)) | ((with_reducible refine k_seq ?_)) | ((with_reducible refine k_seqX ?_)) | ((with_reducible refine k_seqR ?_)) | ((with_reducible refine k_block ?_)) | ((with_reducible refine k_blockX ?_)) | ((with_reducible refine k_blockY ?_ ?_); exact rfl) | ((with_reducible refine k_blockR ?_)) | ((with_reducible refine k_loopX ?_)) | ((with_reducible refine k_loopR ?_)) | ((with_reducible refine st_condT ?_ ?_); exact rfl) | ((with_reducible refine st_condF ?_ ?_); exact rfl)))
          (refine goT_req (recs_pre (s := 4) (fun _ => rfl) hit (by decide)) ?_; (conv => arg 1; whnf)); (repeat (first | ((with_reducible refine go_ret ?_)) | ((with_reducible refine go_put ?_); (conv => arg 1; whnf)) | ((with_reducible apply go_get); exact rfl; (conv => arg 1; whnf)) | ((with_reducible refine go_req ?_ ?_); exact (of_decide_eq_true rfl); (conv => arg 1; whnf)) | ((with_reducible refine go_req ?_ ?_); exact trivial; (conv => arg 1; whnf)) | ((with_reducible refine go_req ?_ ?_); exact rfl; (conv => arg 1; whnf)) | ((with_reducible refine go_reqP ?_ ?_); exact rfl; (conv => arg 1; whnf)) | ((with_reducible refine ops_nil ?_)) | ((with_reducible refine ops_cons ?_ ?_ ?_); exact rfl; exact rfl; (conv => arg 1; whnf)) | ((with_reducible apply ops_take); exact rfl; exact rfl; exact rfl; exact rfl; (conv => arg 1; whnf)) | ((with_reducible apply ops_skip); exact rfl; exact rfl; exact rfl; exact rfl) | ((with_reducible refine goT_ret ?_)) | ((with_reducible refine goT_put ?_); (conv => arg 1; whnf)) | ((with_reducible apply goT_get); exact rfl; (conv => arg 1; whnf)) | ((with_reducible refine goT_req ?_ ?_); exact (of_decide_eq_true rfl); (conv => arg 1; whnf)) | ((with_reducible refine goT_req ?_ ?_); exact trivial; (conv => arg 1; whnf)) | ((with_reducible refine goT_req ?_ ?_); exact rfl; (conv => arg 1; whnf)) | ((with_reducible refine goT_reqP ?_ ?_); exact rfl; (conv => arg 1; whnf)) | ((with_reducible refine d_step ?_ ?_); kernel_rfl) | ((with_reducible refine d_nil ?_)) | ((with_reducible refine d_cons ?_ ?_ ?_); exact rfl; exact rfl; (conv => arg 1; whnf)) | ((conv => arg 6; whnf); (with_reducible refine d_cons ?_ ?_ ?_); exact rfl; exact rfl; (conv => arg 1; whnf)) | ((conv => arg 5; whnf); (with_reducible refine ops_cons ?_ ?_ ?_); exact rfl; exact rfl; (conv => arg 1; whnf)) | ((with_reducible apply d_take); exact rfl; exact rfl; exact rfl; exact rfl; (conv => arg 1; whnf)) | ((with_reducible apply d_skip); exact rfl; exact rfl; exact rfl; exact rfl; (first | exact rfl | kernel_rfl)) | ((conv => arg 6; whnf); (with_reducible apply d_take); exact rfl; exact rfl; exact rfl; exact rfl; (conv => arg 1; whnf)) | ((conv => arg 6; whnf); (with_reducible apply d_skip); exact rfl; exact rfl; exact rfl; exact rfl; (first | exact rfl | kernel_rfl)) | ((with_reducible refine st_regionD ?_ ?_); kernel_rfl; (conv => arg 6; whnf)) | ((with_reducible refine st_seq ?_)) | ((with_reducible refine st_region rfl rfl ?_); (conv => arg 5; whnf)) | ((with_reducible refine st_block ?_)) | ((with_reducible refine st_skip ?_)) | ((with_reducible refine st_exit ?_)) | ((with_reducible refine st_ret ?_)) | ((with_reducible refine k_seq ?_)) | ((with_reducible refine k_seqX ?_)) | ((with_reducible refine k_seqR ?_)) | ((with_reducible refine k_block ?_)) | ((with_reducible refine k_blockX ?_)) | ((with_reducible refine k_blockY ?_ ?_); exact rfl) | ((with_reducible refine k_blockR ?_)) | ((with_reducible refine k_loopX ?_)) | ((with_reducible refine k_loopR ?_)) | ((with_reducible refine st_condT ?_ ?_); exact rfl) | ((with_reducible refine st_condF ?_ ?_); exact rfl)))
          refine goT_req (recs_cell2_len (s := 4) (o := 0) (p := 1) (fun _ => rfl) hit (by decide)) ?_
          show (RM.retF ((((((recs eSky l).drop (k * 4)).drop 0).drop 1)[0]?).getD .top)).goT _ _ _ _
          rw [recs_cell2 (s := 4) (fun _ => rfl) l k 0 1 hit (by decide)]
          (conv => arg 1; whnf)
          (repeat (first | ((with_reducible refine go_ret ?_)) | ((with_reducible refine go_put ?_); (conv => arg 1; whnf)) | ((with_reducible apply go_get); exact rfl; (conv => arg 1; whnf)) | ((with_reducible refine go_req ?_ ?_); exact (of_decide_eq_true rfl); (conv => arg 1; whnf)) | ((with_reducible refine go_req ?_ ?_); exact trivial; (conv => arg 1; whnf)) | ((with_reducible refine go_req ?_ ?_); exact rfl; (conv => arg 1; whnf)) | ((with_reducible refine go_reqP ?_ ?_); exact rfl; (conv => arg 1; whnf)) | ((with_reducible refine ops_nil ?_)) | ((with_reducible refine ops_cons ?_ ?_ ?_); exact rfl; exact rfl; (conv => arg 1; whnf)) | ((with_reducible apply ops_take); exact rfl; exact rfl; exact rfl; exact rfl; (conv => arg 1; whnf)) | ((with_reducible apply ops_skip); exact rfl; exact rfl; exact rfl; exact rfl) | ((with_reducible refine goT_ret ?_)) | ((with_reducible refine goT_put ?_); (conv => arg 1; whnf)) | ((with_reducible apply goT_get); exact rfl; (conv => arg 1; whnf)) | ((with_reducible refine goT_req ?_ ?_); exact (of_decide_eq_true rfl); (conv => arg 1; whnf)) | ((with_reducible refine goT_req ?_ ?_); exact trivial; (conv => arg 1; whnf)) | ((with_reducible refine goT_req ?_ ?_); exact rfl; (conv => arg 1; whnf)) | ((with_reducible refine goT_reqP ?_ ?_); exact rfl; (conv => arg 1; whnf)) | ((with_reducible refine d_step ?_ ?_); kernel_rfl) | ((with_reducible refine d_nil ?_)) | ((with_reducible refine d_cons ?_ ?_ ?_); exact rfl; exact rfl; (conv => arg 1; whnf)) | ((conv => arg 6; whnf); (with_reducible refine d_cons ?_ ?_ ?_); exact rfl; exact rfl; (conv => arg 1; whnf)) | ((conv => arg 5; whnf); (with_reducible refine ops_cons ?_ ?_ ?_); exact rfl; exact rfl; (conv => arg 1; whnf)) | ((with_reducible apply d_take); exact rfl; exact rfl; exact rfl; exact rfl; (conv => arg 1; whnf)) | ((with_reducible apply d_skip); exact rfl; exact rfl; exact rfl; exact rfl; (first | exact rfl | kernel_rfl)) | ((conv => arg 6; whnf); (with_reducible apply d_take); exact rfl; exact rfl; exact rfl; exact rfl; (conv => arg 1; whnf)) | ((conv => arg 6; whnf); (with_reducible apply d_skip); exact rfl; exact rfl; exact rfl; exact rfl; (first | exact rfl | kernel_rfl)) | ((with_reducible refine st_regionD ?_ ?_); kernel_rfl; (conv => arg 6; whnf)) | ((with_reducible refine st_seq ?_)) | ((with_reducible refine st_region rfl rfl ?_); (conv => arg 5; whnf)) | ((with_reducible refine st_block ?_)) | ((with_reducible refine st_skip ?_)) | ((with_reducible refine st_exit ?_)) | ((with_reducible refine st_ret ?_)) | ((with_reducible refine k_seq ?_)) | ((with_reducible refine k_seqX ?_)) | ((with_reducible refine k_seqR ?_)) | ((with_reducible refine k_block ?_)) | ((with_reducible refine k_blockX ?_)) | ((with_reducible refine k_blockY ?_ ?_); exact rfl) | ((with_reducible refine k_blockR ?_)) | ((with_reducible refine k_loopX ?_)) | ((with_reducible refine k_loopR ?_)) | ((with_reducible refine st_condT ?_ ?_); exact rfl) | ((with_reducible refine st_condF ?_ ?_); exact rfl)))
          (refine goT_exi (wr (wr (c.area * wr (l[k].rain.hi + refMost c l k l[k])) * c.percent), 10) ?_ ?_; exact ⟨rfl, show (10 : Int) ≠ 0 by decide⟩; (conv => arg 1; whnf)); (repeat (first | ((with_reducible refine go_ret ?_)) | ((with_reducible refine go_put ?_); (conv => arg 1; whnf)) | ((with_reducible apply go_get); exact rfl; (conv => arg 1; whnf)) | ((with_reducible refine go_req ?_ ?_); exact (of_decide_eq_true rfl); (conv => arg 1; whnf)) | ((with_reducible refine go_req ?_ ?_); exact trivial; (conv => arg 1; whnf)) | ((with_reducible refine go_req ?_ ?_); exact rfl; (conv => arg 1; whnf)) | ((with_reducible refine go_reqP ?_ ?_); exact rfl; (conv => arg 1; whnf)) | ((with_reducible refine ops_nil ?_)) | ((with_reducible refine ops_cons ?_ ?_ ?_); exact rfl; exact rfl; (conv => arg 1; whnf)) | ((with_reducible apply ops_take); exact rfl; exact rfl; exact rfl; exact rfl; (conv => arg 1; whnf)) | ((with_reducible apply ops_skip); exact rfl; exact rfl; exact rfl; exact rfl) | ((with_reducible refine goT_ret ?_)) | ((with_reducible refine goT_put ?_); (conv => arg 1; whnf)) | ((with_reducible apply goT_get); exact rfl; (conv => arg 1; whnf)) | ((with_reducible refine goT_req ?_ ?_); exact (of_decide_eq_true rfl); (conv => arg 1; whnf)) | ((with_reducible refine goT_req ?_ ?_); exact trivial; (conv => arg 1; whnf)) | ((with_reducible refine goT_req ?_ ?_); exact rfl; (conv => arg 1; whnf)) | ((with_reducible refine goT_reqP ?_ ?_); exact rfl; (conv => arg 1; whnf)) | ((with_reducible refine d_step ?_ ?_); kernel_rfl) | ((with_reducible refine d_nil ?_)) | ((with_reducible refine d_cons ?_ ?_ ?_); exact rfl; exact rfl; (conv => arg 1; whnf)) | ((conv => arg 6; whnf); (with_reducible refine d_cons ?_ ?_ ?_); exact rfl; exact rfl; (conv => arg 1; whnf)) | ((conv => arg 5; whnf); (with_reducible refine ops_cons ?_ ?_ ?_); exact rfl; exact rfl; (conv => arg 1; whnf)) | ((with_reducible apply d_take); exact rfl; exact rfl; exact rfl; exact rfl; (conv => arg 1; whnf)) | ((with_reducible apply d_skip); exact rfl; exact rfl; exact rfl; exact rfl; (first | exact rfl | kernel_rfl)) | ((conv => arg 6; whnf); (with_reducible apply d_take); exact rfl; exact rfl; exact rfl; exact rfl; (conv => arg 1; whnf)) | ((conv => arg 6; whnf); (with_reducible apply d_skip); exact rfl; exact rfl; exact rfl; exact rfl; (first | exact rfl | kernel_rfl)) | ((with_reducible refine st_regionD ?_ ?_); kernel_rfl; (conv => arg 6; whnf)) | ((with_reducible refine st_seq ?_)) | ((with_reducible refine st_region rfl rfl ?_); (conv => arg 5; whnf)) | ((with_reducible refine st_block ?_)) | ((with_reducible refine st_skip ?_)) | ((with_reducible refine st_exit ?_)) | ((with_reducible refine st_ret ?_)) | ((with_reducible refine k_seq ?_)) | ((with_reducible refine k_seqX ?_)) | ((with_reducible refine k_seqR ?_)) | ((with_reducible refine k_block ?_)) | ((with_reducible refine k_blockX ?_)) | ((with_reducible refine k_blockY ?_ ?_); exact rfl) | ((with_reducible refine k_blockR ?_)) | ((with_reducible refine k_loopX ?_)) | ((with_reducible refine k_loopR ?_)) | ((with_reducible refine st_condT ?_ ?_); exact rfl) | ((with_reducible refine st_condF ?_ ?_); exact rfl)))
          (refine goT_req (show k * 2 = (recs eBd ((refRun c l).take k)).length ∧ k + 1 ≤ 2 ^ 63 - 1 ∧ (k + 1) * 16 ≤ 140737488355328 by rw [recs_length (s := 2) (fun _ => rfl), List.length_take]; omega) ?_; (conv => arg 1; whnf))
          (repeat (first | ((with_reducible refine go_ret ?_)) | ((with_reducible refine go_put ?_); (conv => arg 1; whnf)) | ((with_reducible apply go_get); exact rfl; (conv => arg 1; whnf)) | ((with_reducible refine go_req ?_ ?_); exact (of_decide_eq_true rfl); (conv => arg 1; whnf)) | ((with_reducible refine go_req ?_ ?_); exact trivial; (conv => arg 1; whnf)) | ((with_reducible refine go_req ?_ ?_); exact rfl; (conv => arg 1; whnf)) | ((with_reducible refine go_reqP ?_ ?_); exact rfl; (conv => arg 1; whnf)) | ((with_reducible refine ops_nil ?_)) | ((with_reducible refine ops_cons ?_ ?_ ?_); exact rfl; exact rfl; (conv => arg 1; whnf)) | ((with_reducible apply ops_take); exact rfl; exact rfl; exact rfl; exact rfl; (conv => arg 1; whnf)) | ((with_reducible apply ops_skip); exact rfl; exact rfl; exact rfl; exact rfl) | ((with_reducible refine goT_ret ?_)) | ((with_reducible refine goT_put ?_); (conv => arg 1; whnf)) | ((with_reducible apply goT_get); exact rfl; (conv => arg 1; whnf)) | ((with_reducible refine goT_req ?_ ?_); exact (of_decide_eq_true rfl); (conv => arg 1; whnf)) | ((with_reducible refine goT_req ?_ ?_); exact trivial; (conv => arg 1; whnf)) | ((with_reducible refine goT_req ?_ ?_); exact rfl; (conv => arg 1; whnf)) | ((with_reducible refine goT_reqP ?_ ?_); exact rfl; (conv => arg 1; whnf)) | ((with_reducible refine d_step ?_ ?_); kernel_rfl) | ((with_reducible refine d_nil ?_)) | ((with_reducible refine d_cons ?_ ?_ ?_); exact rfl; exact rfl; (conv => arg 1; whnf)) | ((conv => arg 6; whnf); (with_reducible refine d_cons ?_ ?_ ?_); exact rfl; exact rfl; (conv => arg 1; whnf)) | ((conv => arg 5; whnf); (with_reducible refine ops_cons ?_ ?_ ?_); exact rfl; exact rfl; (conv => arg 1; whnf)) | ((with_reducible apply d_take); exact rfl; exact rfl; exact rfl; exact rfl; (conv => arg 1; whnf)) | ((with_reducible apply d_skip); exact rfl; exact rfl; exact rfl; exact rfl; (first | exact rfl | kernel_rfl)) | ((conv => arg 6; whnf); (with_reducible apply d_take); exact rfl; exact rfl; exact rfl; exact rfl; (conv => arg 1; whnf)) | ((conv => arg 6; whnf); (with_reducible apply d_skip); exact rfl; exact rfl; exact rfl; exact rfl; (first | exact rfl | kernel_rfl)) | ((with_reducible refine st_regionD ?_ ?_); kernel_rfl; (conv => arg 6; whnf)) | ((with_reducible refine st_seq ?_)) | ((with_reducible refine st_region rfl rfl ?_); (conv => arg 5; whnf)) | ((with_reducible refine st_block ?_)) | ((with_reducible refine st_skip ?_)) | ((with_reducible refine st_exit ?_)) | ((with_reducible refine st_ret ?_)) | ((with_reducible refine k_seq ?_)) | ((with_reducible refine k_seqX ?_)) | ((with_reducible refine k_seqR ?_)) | ((with_reducible refine k_block ?_)) | ((with_reducible refine k_blockX ?_)) | ((with_reducible refine k_blockY ?_ ?_); exact rfl) | ((with_reducible refine k_blockR ?_)) | ((with_reducible refine k_loopX ?_)) | ((with_reducible refine k_loopR ?_)) | ((with_reducible refine st_condT ?_ ?_); exact rfl) | ((with_reducible refine st_condF ?_ ?_); exact rfl)))
          refine k_loop (⟨k + 1, by omega⟩ : { i : Nat // i ≤ l.length }) [(0, 0), (2, 88)] ⟨⟨rfl, rfl, rfl, iEq (wrap_succ (k := k) (by omega)), trivial⟩, ⟨⟨0, _, rfl, rfl, rfl⟩, ⟨88, _, rfl, rfl, ?_⟩, trivial⟩, rfl, rfl⟩ (by simp; omega)
          show some (Bx.row 27 2 (recs eBd ((refRun c l).take k) ++ eBd (refOut c l k l[k])) 0) = some (Bx.row 27 2 (recs eBd ((refRun c l).take (k + 1))) 0)
          rw [refRun_take c l k hit]
          simp [recs]
    · have hge : i = l.length := by have := of_decide_eq_false hb; omega
      (repeat (first | ((with_reducible refine go_ret ?_)) | ((with_reducible refine go_put ?_); (conv => arg 1; whnf)) | ((with_reducible apply go_get); exact rfl; (conv => arg 1; whnf)) | ((with_reducible refine go_req ?_ ?_); exact (of_decide_eq_true rfl); (conv => arg 1; whnf)) | ((with_reducible refine go_req ?_ ?_); exact trivial; (conv => arg 1; whnf)) | ((with_reducible refine go_req ?_ ?_); exact rfl; (conv => arg 1; whnf)) | ((with_reducible refine go_reqP ?_ ?_); exact rfl; (conv => arg 1; whnf)) | ((with_reducible refine ops_nil ?_)) | ((with_reducible refine ops_cons ?_ ?_ ?_); exact rfl; exact rfl; (conv => arg 1; whnf)) | ((with_reducible apply ops_take); exact rfl; exact rfl; exact rfl; exact rfl; (conv => arg 1; whnf)) | ((with_reducible apply ops_skip); exact rfl; exact rfl; exact rfl; exact rfl) | ((with_reducible refine goT_ret ?_)) | ((with_reducible refine goT_put ?_); (conv => arg 1; whnf)) | ((with_reducible apply goT_get); exact rfl; (conv => arg 1; whnf)) | ((with_reducible refine goT_req ?_ ?_); exact (of_decide_eq_true rfl); (conv => arg 1; whnf)) | ((with_reducible refine goT_req ?_ ?_); exact trivial; (conv => arg 1; whnf)) | ((with_reducible refine goT_req ?_ ?_); exact rfl; (conv => arg 1; whnf)) | ((with_reducible refine goT_reqP ?_ ?_); exact rfl; (conv => arg 1; whnf)) | ((with_reducible refine d_step ?_ ?_); kernel_rfl) | ((with_reducible refine d_nil ?_)) | ((with_reducible refine d_cons ?_ ?_ ?_); exact rfl; exact rfl; (conv => arg 1; whnf)) | ((conv => arg 6; whnf); (with_reducible refine d_cons ?_ ?_ ?_); exact rfl; exact rfl; (conv => arg 1; whnf)) | ((conv => arg 5; whnf); (with_reducible refine ops_cons ?_ ?_ ?_); exact rfl; exact rfl; (conv => arg 1; whnf)) | ((with_reducible apply d_take); exact rfl; exact rfl; exact rfl; exact rfl; (conv => arg 1; whnf)) | ((with_reducible apply d_skip); exact rfl; exact rfl; exact rfl; exact rfl; (first | exact rfl | kernel_rfl)) | ((conv => arg 6; whnf); (with_reducible apply d_take); exact rfl; exact rfl; exact rfl; exact rfl; (conv => arg 1; whnf)) | ((conv => arg 6; whnf); (with_reducible apply d_skip); exact rfl; exact rfl; exact rfl; exact rfl; (first | exact rfl | kernel_rfl)) | ((with_reducible refine st_regionD ?_ ?_); kernel_rfl; (conv => arg 6; whnf)) | ((with_reducible refine st_seq ?_)) | ((with_reducible refine st_region rfl rfl ?_); (conv => arg 5; whnf)) | ((with_reducible refine st_block ?_)) | ((with_reducible refine st_skip ?_)) | ((with_reducible refine st_exit ?_)) | ((with_reducible refine st_ret ?_)) | ((with_reducible refine k_seq ?_)) | ((with_reducible refine k_seqX ?_)) | ((with_reducible refine k_seqR ?_)) | ((with_reducible refine k_block ?_)) | ((with_reducible refine k_blockX ?_)) | ((with_reducible refine k_blockY ?_ ?_); exact rfl) | ((with_reducible refine k_blockR ?_)) | ((with_reducible refine k_loopX ?_)) | ((with_reducible refine k_loopR ?_)) | ((with_reducible refine st_condT ?_ ?_); exact rfl) | ((with_reducible refine st_condF ?_ ?_); exact rfl)))
      ((conv => whnf); repeat ((first | refine And.intro (of_decide_eq_true rfl) ?_ | refine And.intro trivial ?_); conv => whnf))
      refine And.intro (show i * 2 = (recs eBd ((refRun c l).take i)).length by rw [recs_length (s := 2) (fun _ => rfl), List.length_take]; omega) ?_
      ((conv => whnf); repeat ((first | refine And.intro (of_decide_eq_true rfl) ?_ | refine And.intro trivial ?_); conv => whnf))
      show V.sl (recs eBd ((refRun c l).take i)) i = .sl (recs eBd (refRun c l)) l.length
      rw [hge, List.take_of_length_le (by omega)]
end Go.Ev
set_option linter.unusedVariables false
set_option linter.unusedSimpArgs false
namespace Go.Ev
open Go.Proofs

theorem wr_id {n : Int} (h : -9223372036854775808 ≤ n) (h' : n ≤ 9223372036854775807) : wr n = n := (wrap_ok h h').symm
theorem minmax_t (a b : Int) : minmax true a b = max a b := by simp only [minmax, if_true]; split <;> omega
theorem minmax_f (a b : Int) : minmax false a b = min a b := by simp only [minmax, Bool.false_eq_true, if_false]; split <;> omega

theorem inB_iff {n a b : Int} : inB n a b = true ↔ a ≤ n ∧ n ≤ b := by simp [inB]
theorem bdOk_eq (b : Bd) (x y : Int) : bdOk b x y = vdB b x y := by
  rw [Bool.eq_iff_iff]
  simp only [bdOk, vdB, Bool.and_eq_true, inB_iff, decide_eq_true_eq]
  omega
theorem skyOk_eq : skyOk = skyOkR := by funext s; simp only [skyOk, skyOkR, bdOk_eq]
theorem skyErr_eq (c : Cat) (l : List Sky) : skyErr c l = skyErrR c l := by
  have e : catOk c = catOkR c := by simp only [catOk, catOkR, bdOk_eq]
  unfold skyErr skyErrR
  rw [e, skyOk_eq]

theorem mul_rng {a b x y : Int} (h1 : 0 ≤ a) (h2 : a ≤ x) (h3 : 0 ≤ b) (h4 : b ≤ y) : 0 ≤ a * b ∧ a * b ≤ x * y :=
  ⟨Int.mul_nonneg h1 h3, Int.mul_le_mul h2 h4 h3 (by omega)⟩

theorem dn_eq {v : Int} (h : 0 ≤ v) (h' : v ≤ 1000000000000000000) : dn v 10 = v / 10 := by
  have e : v.tdiv 10 = v / 10 := Int.tdiv_eq_ediv_of_nonneg h
  have e2 : ¬ v.tmod 10 < 0 := by have := Int.tmod_nonneg 10 h; omega
  rw [dn, if_neg e2, e, wr_id (by omega) (by omega)]
theorem flw_eq {v : Int} (h : 0 ≤ v) (h' : v ≤ 1000000000000000000) : flw v 10 = v / 10 := by
  have e : v.tdiv 10 = v / 10 := Int.tdiv_eq_ediv_of_nonneg h
  rw [flw, e, wr_id (n := v / 10) (by omega) (by omega), wr_id (n := v / 10 * 10) (by omega) (by omega), if_neg (by omega)]
theorem clw_eq {v : Int} (h : 0 ≤ v) (h' : v ≤ 1000000000000000000) : clw v 10 = (v + 9) / 10 := by
  have e : v.tdiv 10 = v / 10 := Int.tdiv_eq_ediv_of_nonneg h
  rw [clw, e, wr_id (n := v / 10) (by omega) (by omega), wr_id (n := v / 10 * 10) (by omega) (by omega)]
  split
  · rw [wr_id (by omega) (by omega)]; omega
  · omega
theorem upw_eq {v : Int} (h : 0 ≤ v) (h' : v ≤ 1000000000000000000) : upw v 10 = (v + 9) / 10 := by
  have e : v.tdiv 10 = v / 10 := Int.tdiv_eq_ediv_of_nonneg h
  have e3 : v.tmod 10 = v % 10 := Int.tmod_eq_emod_of_nonneg h
  rw [upw, wr_id (n := 0 - v) (by omega) (by omega), dn, show (0 - v : Int) = -v by omega, Int.neg_tdiv, Int.neg_tmod, e, e3, wr_id (n := -(v / 10)) (by omega) (by omega)]
  split
  · rw [wr_id (n := -(v / 10) - 1) (by omega) (by omega), wr_id (by omega) (by omega)]; omega
  · rw [wr_id (by omega) (by omega)]; omega

structure Ok (c : Cat) (l : List Sky) : Prop where
  area : 0 ≤ c.area ∧ c.area ≤ 10000
  percent : 0 ≤ c.percent ∧ c.percent ≤ 100
  melt : 0 ≤ c.melt ∧ c.melt ≤ 100
  snow : 0 ≤ c.snow.lo ∧ c.snow.lo ≤ 1000000 ∧ 0 ≤ c.snow.hi ∧ c.snow.hi ≤ 1000000
  sky : ∀ s ∈ l, (0 ≤ s.rain.lo ∧ s.rain.lo ≤ 20000 ∧ 0 ≤ s.rain.hi ∧ s.rain.hi ≤ 20000) ∧ (-500 ≤ s.heat.lo ∧ s.heat.lo ≤ 500 ∧ -500 ≤ s.heat.hi ∧ s.heat.hi ≤ 500)

theorem ok_of {c : Cat} {l : List Sky} (h : skyErrR c l = 0) : Ok c l ∧ l.length ≤ 400 := by
  unfold skyErrR at h
  split at h
  · next hc =>
    split at h
    · cases h
    · split at h
      · next hl ha =>
        simp only [catOkR, Bool.and_eq_true, inB_iff, vdB] at hc
        refine ⟨⟨by omega, by omega, by omega, by omega, fun s hs => ?_⟩, by omega⟩
        have := List.all_eq_true.1 ha s hs
        simp only [skyOkR, Bool.and_eq_true, inB_iff, vdB] at this
        omega
      · cases h
  · cases h

theorem heat_rng {r h : Int} (h1 : 0 ≤ r ∧ r ≤ 100) (h2 : -500 ≤ h ∧ h ≤ 500) : 0 ≤ r * max h 0 ∧ r * max h 0 ≤ 50000 := by
  have := mul_rng (a := r) (b := max h 0) (x := 100) (y := 500) h1.1 h1.2 (by omega) (by omega)
  omega
theorem meltOf_eq {r s h : Int} (h1 : 0 ≤ r ∧ r ≤ 100) (h2 : -500 ≤ h ∧ h ≤ 500) : meltOf r s h = min s (r * max h 0) := by
  have := heat_rng h1 h2
  rw [meltOf, minmax_f, minmax_t, Int.mul_comm, show max 0 h = max h 0 by omega, wr_id (by omega) (by omega)]
theorem snowAt_rng {r s : Int} (h1 : 0 ≤ r ∧ r ≤ 100) (hs : 0 ≤ s ∧ s ≤ 1000000) : ∀ (l : List Int), (∀ h ∈ l, -500 ≤ h ∧ h ≤ 500) → 0 ≤ snowAt r s l ∧ snowAt r s l ≤ 1000000
  | [], _ => hs
  | h :: l, hl => by
    have e := heat_rng h1 (hl h (by simp))
    show 0 ≤ snowAt r (wr (s - meltOf r s h)) l ∧ snowAt r (wr (s - meltOf r s h)) l ≤ 1000000
    rw [meltOf_eq h1 (hl h (by simp)), wr_id (by omega) (by omega)]
    exact snowAt_rng h1 (by omega) l fun x hx => hl x (by simp [hx])
theorem snowAt_snoc (r s : Int) (l : List Int) (h : Int) : snowAt r s (l ++ [h]) = wr (snowAt r s l - meltOf r (snowAt r s l) h) := by simp [snowAt]

theorem pack_eq {c : Cat} {l : List Sky} (ho : Ok c l) : ∀ k, k ≤ l.length → packAt c l k = ⟨snowAt c.melt c.snow.lo (his (l.take k)), snowAt c.melt c.snow.hi (los (l.take k))⟩
  | 0, _ => by simp [packAt, snowAt, his, los]
  | k + 1, hk => by
    have hlt : k < l.length := by omega
    have hs := (ho.sky l[k] (by simp)).2
    have hh : ∀ x ∈ his (l.take k), -500 ≤ x ∧ x ≤ 500 := by
      intro x hx
      simp only [his, List.mem_map] at hx
      obtain ⟨s, hs, rfl⟩ := hx
      have := (ho.sky s (List.mem_of_mem_take hs)).2; omega
    have hl : ∀ x ∈ los (l.take k), -500 ≤ x ∧ x ≤ 500 := by
      intro x hx
      simp only [los, List.mem_map] at hx
      obtain ⟨s, hs, rfl⟩ := hx
      have := (ho.sky s (List.mem_of_mem_take hs)).2; omega
    rw [show packAt c l (k + 1) = melt2 (packAt c l k) (heatOf c l[k]) from foldl_take _ _ _ _ hlt, pack_eq ho k (by omega), List.take_succ_eq_append_getElem hlt]
    simp only [his, los, List.map_append, List.map_cons, List.map_nil, snowAt_snoc]
    have r1 := snowAt_rng (s := c.snow.lo) ho.melt (by have := ho.snow; omega) _ hh
    have r2 := snowAt_rng (s := c.snow.hi) ho.melt (by have := ho.snow; omega) _ hl
    simp only [his, los] at r1 r2
    generalize snowAt c.melt c.snow.lo (List.map (fun s => s.heat.hi) (l.take k)) = A at *
    generalize snowAt c.melt c.snow.hi (List.map (fun s => s.heat.lo) (l.take k)) = B at *
    have m1 := heat_rng ho.melt (h := l[k].heat.hi) (by omega)
    have m2 := heat_rng ho.melt (h := l[k].heat.lo) (by omega)
    rw [meltOf_eq ho.melt (by omega), meltOf_eq ho.melt (by omega)]
    simp only [melt2, heatOf, mx0, minmax_t, Bd.mk.injEq]
    rw [wr_id (n := c.melt * max l[k].heat.hi 0) (by omega) (by omega), wr_id (n := c.melt * max l[k].heat.lo 0) (by omega) (by omega)]
    generalize c.melt * max l[k].heat.hi 0 = X at *
    generalize c.melt * max l[k].heat.lo 0 = Y at *
    rw [wr_id (by omega) (by omega), wr_id (by omega) (by omega), wr_id (by omega) (by omega), wr_id (by omega) (by omega)]
    omega

theorem meltsGo_get (r s : Int) (l : List Int) (k : Nat) (h : k < l.length) : (meltsGo r s l)[k]? = some (meltOf r (snowAt r s (l.take k)) l[k]) := by
  have e := meltsGo_take r s l k h
  have : ((meltsGo r s l).take (k + 1))[k]? = some (meltOf r (snowAt r s (l.take k)) l[k]) := by
    rw [e, List.getElem?_append_right (by rw [List.length_take, meltsGo_length]; omega), List.length_take, meltsGo_length, Nat.min_eq_left (by omega)]
    simp
  rw [← this, List.getElem?_take, if_pos (by omega)]
theorem meltsGo_last (r s : Int) (l : List Int) (x : Int) (k : Nat) (h : l.length = k) : ((meltsGo r s (l ++ [x]))[k]?).getD 0 = meltOf r (snowAt r s l) x := by
  subst h
  rw [meltsGo_get r s (l ++ [x]) l.length (by simp)]
  simp

/-- THE PROGRAM'S RUNOFF IS THE REFERENCE'S. -/
theorem runoff_eq {c : Cat} {l : List Sky} (ho : Ok c l) : runoffL c l = refRun c l := by
  apply List.ext_getElem
  · rw [refRun_length, runoffL, runoffGo_length]
  intro k h1 h2
  have hk : k < l.length := by rw [refRun_length] at h2; exact h2
  have e1 : (runoffL c l)[k] = outOf c (packAt c l k) l[k] := runoffGo_get c c.snow l k hk
  rw [e1, pack_eq ho k (by omega)]
  simp only [refRun, List.getElem_mapIdx]
  have hh : ∀ x ∈ his (l.take k), -500 ≤ x ∧ x ≤ 500 := by
    intro x hx
    simp only [his, List.mem_map] at hx
    obtain ⟨s, hs, rfl⟩ := hx
    have := (ho.sky s (List.mem_of_mem_take hs)).2; omega
  have hl : ∀ x ∈ los (l.take k), -500 ≤ x ∧ x ≤ 500 := by
    intro x hx
    simp only [los, List.mem_map] at hx
    obtain ⟨s, hs, rfl⟩ := hx
    have := (ho.sky s (List.mem_of_mem_take hs)).2; omega
  have r1 := snowAt_rng (s := c.snow.lo) ho.melt (by have := ho.snow; omega) _ hh
  have r2 := snowAt_rng (s := c.snow.hi) ho.melt (by have := ho.snow; omega) _ hl
  have hs := ho.sky l[k] (by simp)
  have m1 := heat_rng ho.melt (h := l[k].heat.lo) (by omega)
  have m2 := heat_rng ho.melt (h := l[k].heat.hi) (by omega)
  have L : refLeast c l k l[k] = min (snowAt c.melt c.snow.lo (his (l.take k))) (c.melt * max l[k].heat.lo 0) := by
    rw [refLeast, meltsGo_last _ _ _ _ k (by simp [his]; omega), meltOf_eq ho.melt (by omega)]
  have M : refMost c l k l[k] = min (snowAt c.melt c.snow.hi (los (l.take k))) (c.melt * max l[k].heat.hi 0) := by
    rw [refMost, meltsGo_last _ _ _ _ k (by simp [los]; omega), meltOf_eq ho.melt (by omega)]
  simp only [outOf, refOut, L, M, sumLo, sumHi, List.foldl_cons, List.foldl_nil, melt1, heatOf, mx0, minmax_t, minmax_f]
  generalize snowAt c.melt c.snow.lo (his (l.take k)) = A at *
  generalize snowAt c.melt c.snow.hi (los (l.take k)) = B at *
  generalize c.melt * max l[k].heat.lo 0 = X at *
  generalize c.melt * max l[k].heat.hi 0 = Y at *
  rw [wr_id (n := X) (by omega) (by omega), wr_id (n := Y) (by omega) (by omega)]
  rw [wr_id (n := 0 + l[k].rain.lo) (by omega) (by omega), wr_id (n := 0 + l[k].rain.hi) (by omega) (by omega)]
  rw [show min X A = min A X by omega, show min Y B = min B Y by omega, Int.zero_add, Int.zero_add]
  rw [wr_id (n := l[k].rain.lo + min A X) (by omega) (by omega), wr_id (n := l[k].rain.hi + min B Y) (by omega) (by omega)]
  have w1 : 0 ≤ l[k].rain.lo + min A X ∧ l[k].rain.lo + min A X ≤ 70000 := by omega
  have w2 : 0 ≤ l[k].rain.hi + min B Y ∧ l[k].rain.hi + min B Y ≤ 70000 := by omega
  generalize l[k].rain.lo + min A X = W at *
  generalize l[k].rain.hi + min B Y = Z at *
  have p1 := mul_rng ho.area.1 ho.area.2 w1.1 w1.2
  have p2 := mul_rng ho.area.1 ho.area.2 w2.1 w2.2
  rw [wr_id (n := c.area * W) (by omega) (by omega), wr_id (n := c.area * Z) (by omega) (by omega)]
  have q1 := mul_rng p1.1 p1.2 ho.percent.1 ho.percent.2
  have q2 := mul_rng p2.1 p2.2 ho.percent.1 ho.percent.2
  rw [wr_id (n := c.area * W * c.percent) (by omega) (by omega), wr_id (n := c.area * Z * c.percent) (by omega) (by omega)]
  rw [dn_eq (by omega) (by omega), flw_eq (by omega) (by omega), upw_eq (by omega) (by omega), clw_eq (by omega) (by omega)]
end Go.Ev
set_option linter.unusedVariables false
set_option linter.unusedSimpArgs false
namespace Go.Ev
open Go.Proofs

def bytesL (l : List Int) : List V := l.map fun n => .v (.int .u8 n)
def partF (l : List Int) (i : Int) : Int := if l.length = 0 then 0 else (l[(i.tmod l.length).toNat]?).getD 0
def pickF (b : Bd) (n : Int) : Int := wr (b.lo + wr ((wr (wr (b.hi - b.lo) * n)).tdiv 255))
structure Tru where
  base : List Int
  side : List Int
  bed : List Int
  grow : List Int
  snow : Int
def eTru (x : Tru) : List V := [.sl (bytesL x.base) x.base.length, .sl (bytesL x.side) x.side.length, .sl (bytesL x.bed) x.bed.length, .sl (bytesL x.grow) x.grow.length, .v (.int .u8 x.snow)]
structure TruOk (x : Tru) : Prop where
  base : ∀ n ∈ x.base, 0 ≤ n ∧ n ≤ 255
  side : ∀ n ∈ x.side, 0 ≤ n ∧ n ≤ 255
  snow : 0 ≤ x.snow ∧ x.snow ≤ 255
  len : x.base.length ≤ 140737488355328 ∧ x.side.length ≤ 140737488355328

theorem part_rng {l : List Int} (h : ∀ n ∈ l, 0 ≤ n ∧ n ≤ 255) (i : Int) : 0 ≤ partF l i ∧ partF l i ≤ 255 := by
  unfold partF
  split
  · omega
  · cases e : l[(i.tmod l.length).toNat]? with
    | none => simp
    | some n => simpa using h n (List.mem_of_getElem? e)

theorem pick_rng {b : Bd} {n : Int} (hn : 0 ≤ n ∧ n ≤ 255) (hb : b.lo ≤ b.hi) (h1 : -1000000 ≤ b.lo) (h2 : b.hi ≤ 1000000) : b.lo ≤ pickF b n ∧ pickF b n ≤ b.hi := by
  have p1 : 0 ≤ (b.hi - b.lo) * n := Int.mul_nonneg (by omega) hn.1
  have p2 : (b.hi - b.lo) * n ≤ (b.hi - b.lo) * 255 := Int.mul_le_mul_of_nonneg_left hn.2 (by omega)
  unfold pickF
  rw [wr_id (n := b.hi - b.lo) (by omega) (by omega), wr_id (n := (b.hi - b.lo) * n) (by omega) (by omega), Int.tdiv_eq_ediv_of_nonneg p1]
  generalize (b.hi - b.lo) * n = q at *
  rw [wr_id (n := q / 255) (by omega) (by omega), wr_id (by omega) (by omega)]
  omega

/-- The snow of a truth, and what has melted. -/
def skyAt (l : List Sky) (k : Nat) : Sky := (l[k]?).getD ⟨⟨0, 0⟩, ⟨0, 0⟩⟩
def wetK (x : Tru) (l : List Sky) (k : Nat) : Int := pickF (skyAt l k).rain (partF x.side k)
def heatK (x : Tru) (l : List Sky) (k : Nat) : Int := pickF (skyAt l k).heat (partF x.base k)
def meltK (c : Cat) (x : Tru) (l : List Sky) (k : Nat) (s : Int) : Int := minmax false s (wr (minmax true 0 (heatK x l k) * c.melt))
def truS (c : Cat) (x : Tru) (l : List Sky) : Nat → Int × Int
  | 0 => (pickF c.snow x.snow, 0)
  | k + 1 => (wr ((truS c x l k).1 - meltK c x l k (truS c x l k).1), wr ((truS c x l k).2 + meltK c x l k (truS c x l k).1))
def nK (c : Cat) (x : Tru) (l : List Sky) (k : Nat) : Int := wr (wr (c.area * wr (wetK x l k + meltK c x l k (truS c x l k).1)) * c.percent)

theorem skyAt_get {l : List Sky} {k : Nat} (h : k < l.length) : skyAt l k = l[k] := by simp [skyAt, h]

theorem ok_more {c : Cat} {l : List Sky} (h : skyErrR c l = 0) : c.snow.lo ≤ c.snow.hi ∧ ∀ s ∈ l, s.rain.lo ≤ s.rain.hi ∧ s.heat.lo ≤ s.heat.hi := by
  unfold skyErrR at h
  split at h
  · next hc =>
    split at h
    · cases h
    · split at h
      · next hl ha =>
        simp only [catOkR, Bool.and_eq_true, inB_iff, vdB] at hc
        refine ⟨by omega, fun s hs => ?_⟩
        have := List.all_eq_true.1 ha s hs
        simp only [skyOkR, Bool.and_eq_true, inB_iff, vdB] at this
        omega
      · cases h
  · cases h

def hLo (c : Cat) (s : Sky) : Int := c.melt * max s.heat.lo 0
def hHi (c : Cat) (s : Sky) : Int := c.melt * max s.heat.hi 0
theorem heatOf_eq {c : Cat} {s : Sky} (hm : 0 ≤ c.melt ∧ c.melt ≤ 100) (hs : -500 ≤ s.heat.lo ∧ s.heat.lo ≤ 500 ∧ -500 ≤ s.heat.hi ∧ s.heat.hi ≤ 500) : heatOf c s = ⟨hLo c s, hHi c s⟩ ∧ 0 ≤ hLo c s ∧ hLo c s ≤ 50000 ∧ 0 ≤ hHi c s ∧ hHi c s ≤ 50000 := by
  have m1 := heat_rng hm (h := s.heat.lo) (by omega)
  have m2 := heat_rng hm (h := s.heat.hi) (by omega)
  refine ⟨?_, m1.1, m1.2, m2.1, m2.2⟩
  simp only [heatOf, mx0, minmax_t, hLo, hHi]
  rw [wr_id (by omega) (by omega), wr_id (by omega) (by omega)]
theorem melt2_eq {p h : Bd} (hp : 0 ≤ p.lo ∧ p.lo ≤ 1000000 ∧ 0 ≤ p.hi ∧ p.hi ≤ 1000000) (hh : 0 ≤ h.lo ∧ h.lo ≤ 50000 ∧ 0 ≤ h.hi ∧ h.hi ≤ 50000) : melt2 p h = ⟨max (p.lo - h.hi) 0, max (p.hi - h.lo) 0⟩ := by
  simp only [melt2, mx0, minmax_t]
  rw [wr_id (by omega) (by omega), wr_id (by omega) (by omega)]
theorem melt1_eq (p h : Bd) : melt1 p h = ⟨min h.lo p.lo, min h.hi p.hi⟩ := by simp only [melt1, minmax_f]
def outA (c : Cat) (w : Int) : Int := c.area * w * c.percent
theorem outA_rng {c : Cat} {w : Int} (ha : 0 ≤ c.area ∧ c.area ≤ 10000) (hp : 0 ≤ c.percent ∧ c.percent ≤ 100) (hw : 0 ≤ w ∧ w ≤ 70000) : 0 ≤ outA c w ∧ outA c w ≤ 70000000000 ∧ 0 ≤ c.area * w ∧ c.area * w ≤ 700000000 := by
  have p1 := mul_rng ha.1 ha.2 hw.1 hw.2
  have p2 := mul_rng p1.1 p1.2 hp.1 hp.2
  simp only [outA]
  omega
theorem outA_mono {c : Cat} {w v : Int} (ha : 0 ≤ c.area) (hp : 0 ≤ c.percent) (h : w ≤ v) : outA c w ≤ outA c v :=
  Int.mul_le_mul_of_nonneg_right (Int.mul_le_mul_of_nonneg_left h ha) hp
theorem out_eq {c : Cat} {p : Bd} {s : Sky} (ha : 0 ≤ c.area ∧ c.area ≤ 10000) (hpc : 0 ≤ c.percent ∧ c.percent ≤ 100) (hm : 0 ≤ c.melt ∧ c.melt ≤ 100) (hp : 0 ≤ p.lo ∧ p.lo ≤ 1000000 ∧ 0 ≤ p.hi ∧ p.hi ≤ 1000000)
    (hr : 0 ≤ s.rain.lo ∧ s.rain.lo ≤ 20000 ∧ 0 ≤ s.rain.hi ∧ s.rain.hi ≤ 20000) (hs : -500 ≤ s.heat.lo ∧ s.heat.lo ≤ 500 ∧ -500 ≤ s.heat.hi ∧ s.heat.hi ≤ 500) :
    outOf c p s = ⟨outA c (s.rain.lo + min (hLo c s) p.lo) / 10, (outA c (s.rain.hi + min (hHi c s) p.hi) + 9) / 10⟩ := by
  obtain ⟨e, h1, h2, h3, h4⟩ := heatOf_eq hm hs
  simp only [outOf, sumLo, sumHi, List.foldl_cons, List.foldl_nil, melt1_eq, e]
  generalize hLo c s = X at *
  generalize hHi c s = Y at *
  rw [wr_id (n := 0 + s.rain.lo) (by omega) (by omega), wr_id (n := 0 + s.rain.hi) (by omega) (by omega), Int.zero_add, Int.zero_add]
  rw [wr_id (n := s.rain.lo + min X p.lo) (by omega) (by omega), wr_id (n := s.rain.hi + min Y p.hi) (by omega) (by omega)]
  have q1 := outA_rng (w := s.rain.lo + min X p.lo) ha hpc (by omega)
  have q2 := outA_rng (w := s.rain.hi + min Y p.hi) ha hpc (by omega)
  simp only [outA] at *
  rw [wr_id (n := c.area * (s.rain.lo + min X p.lo)) (by omega) (by omega), wr_id (n := c.area * (s.rain.hi + min Y p.hi)) (by omega) (by omega)]
  rw [wr_id (n := c.area * (s.rain.lo + min X p.lo) * c.percent) (by omega) (by omega), wr_id (n := c.area * (s.rain.hi + min Y p.hi) * c.percent) (by omega) (by omega)]
  rw [dn_eq (by omega) (by omega), upw_eq (by omega) (by omega)]
theorem pack_step {c : Cat} {l : List Sky} {k : Nat} (h : k < l.length) : packAt c l (k + 1) = melt2 (packAt c l k) (heatOf c l[k]) := foldl_take _ _ _ _ h
theorem pack_rng {c : Cat} {l : List Sky} (ho : Ok c l) : ∀ k, k ≤ l.length → 0 ≤ (packAt c l k).lo ∧ (packAt c l k).lo ≤ 1000000 ∧ 0 ≤ (packAt c l k).hi ∧ (packAt c l k).hi ≤ 1000000
  | 0, _ => by simpa [packAt] using ho.snow
  | k + 1, hk => by
    have ih := pack_rng ho k (by omega)
    have hs := (ho.sky l[k] (by simp)).2
    obtain ⟨e, h1, h2, h3, h4⟩ := heatOf_eq ho.melt (s := l[k]) hs
    rw [pack_step (by omega), e, melt2_eq ih ⟨h1, h2, h3, h4⟩]
    simp only
    omega
/-- THE TRUTH LIES IN THE BOUNDS. -/
theorem truth {c : Cat} {l : List Sky} {x : Tru} (ho : Ok c l) (hm : c.snow.lo ≤ c.snow.hi ∧ ∀ s ∈ l, s.rain.lo ≤ s.rain.hi ∧ s.heat.lo ≤ s.heat.hi) (hx : TruOk x) : ∀ k, k ≤ l.length →
    (packAt c l k).lo ≤ (truS c x l k).1 ∧ (truS c x l k).1 ≤ (packAt c l k).hi ∧ 0 ≤ (truS c x l k).1 ∧ 0 ≤ (truS c x l k).2 ∧ (truS c x l k).1 + (truS c x l k).2 ≤ c.snow.hi
  | 0, _ => by
    have := pick_rng (b := c.snow) hx.snow hm.1 (by have := ho.snow; omega) (by have := ho.snow; omega)
    have := ho.snow
    simp only [packAt, truS, List.take_zero, List.foldl_nil]
    omega
  | k + 1, hk => by
    have ih := truth ho hm hx k (by omega)
    have hp := pack_rng ho k (by omega)
    have hs := (ho.sky l[k] (by simp)).2
    obtain ⟨e, h1, h2, h3, h4⟩ := heatOf_eq ho.melt (s := l[k]) hs
    have hh := pick_rng (b := l[k].heat) (part_rng hx.base k) (hm.2 l[k] (by simp)).2 (by omega) (by omega)
    have g1 : hLo c l[k] ≤ max 0 (heatK x l k) * c.melt := by
      simp only [heatK, skyAt_get (show k < l.length by omega), hLo]
      rw [Int.mul_comm c.melt]
      exact Int.mul_le_mul_of_nonneg_right (by omega) ho.melt.1
    have g2 : max 0 (heatK x l k) * c.melt ≤ hHi c l[k] := by
      simp only [heatK, skyAt_get (show k < l.length by omega), hHi]
      rw [Int.mul_comm c.melt]
      exact Int.mul_le_mul_of_nonneg_right (by omega) ho.melt.1
    rw [pack_step (by omega), e, melt2_eq hp ⟨h1, h2, h3, h4⟩]
    have hsn := ho.snow
    simp only [truS, meltK, minmax_t, minmax_f]
    generalize max 0 (heatK x l k) * c.melt = G at *
    rw [wr_id (n := G) (by omega) (by omega)]
    generalize (truS c x l k).1 = S at *
    generalize (truS c x l k).2 = T at *
    rw [wr_id (by omega) (by omega), wr_id (by omega) (by omega)]
    omega

/-- The land without snow; the land with more of it. -/
def bareC (c : Cat) : Cat := ⟨c.area, c.percent, c.melt, ⟨0, 0⟩⟩
def moreC (c : Cat) (n : Int) : Cat := ⟨minmax false 10000 (wr (c.area + wr n)), c.percent, c.melt, ⟨c.snow.lo, minmax false 1000000 (wr (c.snow.hi + wr n))⟩⟩

theorem more_eq {c : Cat} {n : Int} (ha : 0 ≤ c.area ∧ c.area ≤ 10000) (hs : 0 ≤ c.snow.hi ∧ c.snow.hi ≤ 1000000) (hn : 0 ≤ n ∧ n ≤ 255) : moreC c n = ⟨min 10000 (c.area + n), c.percent, c.melt, ⟨c.snow.lo, min 1000000 (c.snow.hi + n)⟩⟩ := by
  simp only [moreC, minmax_f]
  rw [wr_id (n := n) (by omega) (by omega), wr_id (n := c.area + n) (by omega) (by omega), wr_id (n := c.snow.hi + n) (by omega) (by omega)]

theorem catOkR_iff {c : Cat} : catOkR c = true ↔ (0 ≤ c.area ∧ c.area ≤ 10000) ∧ (0 ≤ c.percent ∧ c.percent ≤ 100) ∧ (0 ≤ c.melt ∧ c.melt ≤ 100) ∧ (0 ≤ c.snow.lo ∧ c.snow.lo ≤ 1000000) ∧ c.snow.lo ≤ c.snow.hi ∧ c.snow.hi ≤ 1000000 := by
  simp only [catOkR, Bool.and_eq_true, inB_iff, vdB]
theorem err0_iff {c : Cat} {l : List Sky} : skyErrR c l = 0 ↔ catOkR c = true ∧ l.length ≤ 400 ∧ l.all skyOkR = true := by
  unfold skyErrR
  constructor
  · intro h
    split at h
    · next hc =>
      split at h
      · cases h
      · split at h
        · next h1 h2 => exact ⟨hc, by omega, h2⟩
        · cases h
    · cases h
  · rintro ⟨h1, h2, h3⟩
    rw [if_pos h1, if_neg (by omega), if_pos h3]
theorem err_small {c : Cat} {l : List Sky} (h : l.length ≤ 100) (h0 : skyErr c l ≠ 0) : skyErr c l = 2 := by
  rw [skyErr_eq] at *
  unfold skyErrR at *
  split at h0
  · split at h0
    · omega
    · split at h0
      · exact absurd rfl h0
      · next h1 h2 h3 => rw [if_pos h1, if_neg h2, if_neg h3]
  · next h1 => rw [if_neg h1]

/-- All that is asked of an hour. -/
structure Hour (c : Cat) (x : Tru) (l : List Sky) (k : Nat) (L R W : Bd) : Prop where
  lo : decide (wr (10 * L.lo) > nK c x l k) = false
  hi : decide (wr (10 * L.hi) < nK c x l k) = false
  rlo : decide (R.lo > L.lo) = false
  rhi : decide (R.hi > L.hi) = false
  wide : decide (W.hi < L.hi) = false
  pos : decide (L.lo < 0) = false
  frost : (skyAt l k).heat.hi ≤ 0 → L = R

theorem hour {c : Cat} {l : List Sky} {x : Tru} (h0 : skyErrR c l = 0) (hx : TruOk x) (k : Nat) (hk : k < l.length) :
    Hour c x l k (outOf c (packAt c l k) l[k]) (outOf (bareC c) (packAt (bareC c) l k) l[k]) (outOf (moreC c x.snow) (packAt (moreC c x.snow) l k) l[k]) := by
  obtain ⟨hc, hl, ha⟩ := err0_iff.1 h0
  have ho := (ok_of h0).1
  have hm := ok_more h0
  obtain ⟨a1, a2, a3, a4, a5, a6⟩ := catOkR_iff.1 hc
  have hb0 : skyErrR (bareC c) l = 0 := err0_iff.2 ⟨catOkR_iff.2 ⟨a1, a2, a3, by simp only [bareC]; omega, by simp only [bareC]; omega, by simp only [bareC]; omega⟩, hl, ha⟩
  have hme := more_eq a1 ⟨by omega, a6⟩ hx.snow
  have hxs := hx.snow
  have hw0 : skyErrR (moreC c x.snow) l = 0 := err0_iff.2 ⟨catOkR_iff.2 (by rw [hme]; simp only; omega), hl, ha⟩
  have hob := (ok_of hb0).1
  have how := (ok_of hw0).1
  have hp := pack_rng ho k (by omega)
  have hpb := pack_rng hob k (by omega)
  have hpw := pack_rng how k (by omega)
  have hs := ho.sky l[k] (by simp)
  have ht := truth ho hm hx k (by omega)
  -- the pack of the bare land is empty, that of the greater one no smaller
  have eb : ∀ j, j ≤ l.length → packAt (bareC c) l j = ⟨0, 0⟩ := by
    intro j
    induction j with
    | zero => intro _; rfl
    | succ j ih =>
      intro hj
      have hs := (ho.sky l[j] (by simp)).2
      obtain ⟨e, h1, h2, h3, h4⟩ := heatOf_eq (c := bareC c) a3 (s := l[j]) hs
      rw [pack_step (by omega), ih (by omega), e, melt2_eq (by simp only; omega) ⟨h1, h2, h3, h4⟩, Bd.mk.injEq]
      simp only
      omega
  have ew : ∀ j, j ≤ l.length → (packAt c l j).hi ≤ (packAt (moreC c x.snow) l j).hi := by
    intro j
    induction j with
    | zero => intro _; show c.snow.hi ≤ (moreC c x.snow).snow.hi; rw [hme]; simp only; omega
    | succ j ih =>
      intro hj
      have hs := (ho.sky l[j] (by simp)).2
      have hj1 := pack_rng ho j (by omega)
      have hj2 := pack_rng how j (by omega)
      obtain ⟨e, h1, h2, h3, h4⟩ := heatOf_eq (c := c) a3 (s := l[j]) hs
      obtain ⟨e', h1', h2', h3', h4'⟩ := heatOf_eq (c := moreC c x.snow) a3 (s := l[j]) hs
      rw [pack_step (by omega), pack_step (by omega), e, e', melt2_eq hj1 ⟨h1, h2, h3, h4⟩, melt2_eq hj2 ⟨h1', h2', h3', h4'⟩]
      have : hLo (moreC c x.snow) l[j] = hLo c l[j] := rfl
      have := ih (by omega)
      simp only
      omega
  have hew := ew k (by omega)
  rw [out_eq a1 a2 a3 hp hs.1 hs.2, out_eq (c := bareC c) a1 a2 a3 hpb hs.1 hs.2, out_eq (c := moreC c x.snow) how.area a2 a3 hpw hs.1 hs.2, eb k (by omega)]
  obtain ⟨e, h1, h2, h3, h4⟩ := heatOf_eq ho.melt (s := l[k]) hs.2
  have hwet := pick_rng (b := l[k].rain) (part_rng hx.side k) (hm.2 l[k] (by simp)).1 (by omega) (by omega)
  have hh := pick_rng (b := l[k].heat) (part_rng hx.base k) (hm.2 l[k] (by simp)).2 (by omega) (by omega)
  have g1 : hLo c l[k] ≤ max 0 (heatK x l k) * c.melt := by
    simp only [heatK, skyAt_get hk, hLo]
    rw [Int.mul_comm c.melt]
    exact Int.mul_le_mul_of_nonneg_right (by omega) ho.melt.1
  have g2 : max 0 (heatK x l k) * c.melt ≤ hHi c l[k] := by
    simp only [heatK, skyAt_get hk, hHi]
    rw [Int.mul_comm c.melt]
    exact Int.mul_le_mul_of_nonneg_right (by omega) ho.melt.1
  have hn : nK c x l k = outA c (wetK x l k + min (truS c x l k).1 (max 0 (heatK x l k) * c.melt)) ∧ wetK x l k = pickF l[k].rain (partF x.side k) := by
    have ew : wetK x l k = pickF l[k].rain (partF x.side k) := by simp only [wetK, skyAt_get hk]
    refine ⟨?_, ew⟩
    simp only [nK, meltK, minmax_t, minmax_f]
    generalize max 0 (heatK x l k) * c.melt = G at *
    rw [ew, wr_id (n := G) (by omega) (by omega)]
    generalize (truS c x l k).1 = S at *
    have q := outA_rng (w := pickF l[k].rain (partF x.side k) + min S G) a1 a2 (by omega)
    simp only [outA] at *
    rw [wr_id (n := pickF l[k].rain (partF x.side k) + min S G) (by omega) (by omega), wr_id (n := c.area * (pickF l[k].rain (partF x.side k) + min S G)) (by omega) (by omega), wr_id (by omega) (by omega)]
  have hfr : l[k].heat.hi ≤ 0 → hLo c l[k] = 0 ∧ hHi c l[k] = 0 := by
    intro hz
    have := (hm.2 l[k] (by simp)).2
    simp only [hLo, hHi]
    rw [show max l[k].heat.lo 0 = 0 by omega, show max l[k].heat.hi 0 = 0 by omega]
    simp
  have eL : hLo (bareC c) l[k] = hLo c l[k] := rfl
  have eH : hHi (bareC c) l[k] = hHi c l[k] := rfl
  have eH' : hHi (moreC c x.snow) l[k] = hHi c l[k] := rfl
  have oa : ∀ w, outA (bareC c) w = outA c w := fun _ => rfl
  rw [eL, eH, eH', oa, oa]
  generalize max 0 (heatK x l k) * c.melt = G at *
  generalize (truS c x l k).1 = S at *
  rw [hn.2] at hn
  generalize pickF l[k].rain (partF x.side k) = w at *
  have hn1 := hn.1
  generalize hX : hLo c l[k] = X at *
  generalize hY : hHi c l[k] = Y at *
  generalize hP : packAt c l k = p at *
  generalize hPw : packAt (moreC c x.snow) l k = pw at *
  -- the amounts, in order
  have r1 := outA_rng (w := l[k].rain.lo + min X p.lo) a1 a2 (by omega)
  have r2 := outA_rng (w := l[k].rain.hi + min Y p.hi) a1 a2 (by omega)
  have r3 := outA_rng (w := w + min S G) a1 a2 (by omega)
  have m1 := outA_mono (c := c) (w := l[k].rain.lo + min X p.lo) (v := w + min S G) a1.1 a2.1 (by omega)
  have m2 := outA_mono (c := c) (w := w + min S G) (v := l[k].rain.hi + min Y p.hi) a1.1 a2.1 (by omega)
  have m3 := outA_mono (c := c) (w := l[k].rain.lo + min X 0) (v := l[k].rain.lo + min X p.lo) a1.1 a2.1 (by omega)
  have m4 := outA_mono (c := c) (w := l[k].rain.hi + min Y 0) (v := l[k].rain.hi + min Y p.hi) a1.1 a2.1 (by omega)
  have m5 : outA c (l[k].rain.hi + min Y p.hi) ≤ outA (moreC c x.snow) (l[k].rain.hi + min Y pw.hi) := by
    refine Int.le_trans (outA_mono (c := c) (w := l[k].rain.hi + min Y p.hi) (v := l[k].rain.hi + min Y pw.hi) a1.1 a2.1 (by omega)) ?_
    have e1 : (moreC c x.snow).area = min 10000 (c.area + x.snow) := by rw [hme]
    have e2 : (moreC c x.snow).percent = c.percent := rfl
    simp only [outA]
    rw [e1, e2]
    exact Int.mul_le_mul_of_nonneg_right (Int.mul_le_mul_of_nonneg_right (by omega) (by omega)) a2.1
  refine { lo := ?_, hi := ?_, rlo := ?_, rhi := ?_, wide := ?_, pos := ?_, frost := ?_ }
  · rw [hn1, wr_id (by simp only; omega) (by simp only; omega)]; simp only; exact decide_eq_false (by omega)
  · rw [hn1, wr_id (by simp only; omega) (by simp only; omega)]; simp only; exact decide_eq_false (by omega)
  · simp only; exact decide_eq_false (by omega)
  · simp only; exact decide_eq_false (by omega)
  · simp only; exact decide_eq_false (by omega)
  · simp only; exact decide_eq_false (by omega)
  · intro hz
    rw [skyAt_get hk] at hz
    obtain ⟨z1, z2⟩ := hfr hz
    subst z1 z2
    rw [show min (0 : Int) p.lo = min 0 0 by omega, show min (0 : Int) p.hi = min 0 0 by omega]
end Go.Ev
/- The evaluator, run: a program over values, with boxes; calls are followed, ranges over functions too. -/
set_option linter.unusedVariables false
namespace Go.Ev
open Go.RowKit
noncomputable section

def RM.x : RM → ST → Option (V × ST)
  | .fail, _ => none
  | .ret v, st => some (v, st)
  | .req _ _, _ => none
  | @RM.dec p k d, st => match d with
    | .isTrue _ => k.x st
    | .isFalse _ => none
  | .exi _ _ _, _ => none
  | .get b k, st => match look st b with
    | some y => (k y).x st
    | none => none
  | .put b y k, st => k.x ((b, y) :: st)

def RM.xT : RM → ST → List Nat → List Nat → Option (V × ST × List Nat × List Nat)
  | .fail, _, _, _ => none
  | .ret v, st, rs, ws => some (v, st, rs, ws)
  | .req _ _, _, _, _ => none
  | @RM.dec p k d, st, rs, ws => match d with
    | .isTrue _ => k.xT st rs ws
    | .isFalse _ => none
  | .exi _ _ _, _, _, _ => none
  | .get b k, st, rs, ws => match look st b with
    | some y => (k y).xT st (b :: rs) ws
    | none => none
  | .put b y k, st, rs, ws => k.xT ((b, y) :: st) rs (b :: ws)

theorem RM.x_go {K : V → ST → Prop} : ∀ (r : RM) (st : ST) (v : V) (st' : ST), r.x st = some (v, st') → K v st' → r.go st K
  | .fail, _, _, _, h, _ => by cases h
  | .ret _, _, _, _, h, hk => by cases h; exact hk
  | .req _ _, _, _, _, h, _ => by cases h
  | @RM.dec p k d, st, v, st', h, hk => by
    cases d with
    | isTrue hp => exact ⟨hp, x_go k st v st' h hk⟩
    | isFalse _ => cases h
  | .exi _ _ _, _, _, _, h, _ => by cases h
  | .get b k, st, v, st', h, hk => by
    simp only [RM.x] at h
    simp only [RM.go]
    split at h
    · next y hy => simp only [hy]; exact x_go (k y) st v st' h hk
    · cases h
  | .put b y k, st, v, st', h, hk => x_go k _ v st' h hk

/-! ### The same values, reckoned out -/
section
variable {β : Type}
def kN (n : Nat) (k : Nat → β) : β := match n with
  | 0 => k 0
  | m + 1 => k (Nat.succ m)
def kI (n : Int) (k : Int → β) : β := match n with
  | .ofNat m => kN m fun m => k (.ofNat m)
  | .negSucc m => kN m fun m => k (.negSucc m)
def kB (b : Bool) (k : Bool → β) : β := match b with
  | true => k true
  | false => k false
/-- The head of a value, and its number. -/
def kV0 (c : V) (k : V → β) : β := match c with
  | .top => k .top
  | .v (.int j n) => kI n fun n => k (.v (.int j n))
  | .v (.bool b) => kB b fun b => k (.v (.bool b))
  | .v x => k (.v x)
  | .agg cs => k (.agg cs)
  | .tup cs => k (.tup cs)
  | .sl cs n => k (.sl cs n)
  | .fptr cs => k (.fptr cs)
  | .fn g caps => k (.fn g caps)
  | .box b off => kN b fun b => kN off fun off => k (.box b off)
  | .osl b n => kN b fun b => kN n fun n => k (.osl b n)
  | .yld b => kN b fun b => k (.yld b)
def kL : List V → (List V → β) → β
  | [], k => k []
  | c :: cs, k => kV0 c fun c => kL cs fun cs => k (c :: cs)
/-- A value and its cells. -/
def kV (c : V) (k : V → β) : β := match c with
  | .agg cs => kL cs fun cs => k (.agg cs)
  | .tup cs => kL cs fun cs => k (.tup cs)
  | .sl cs n => kL cs fun cs => kN n fun n => k (.sl cs n)
  | .fptr cs => kL cs fun cs => k (.fptr cs)
  | .fn g caps => kL caps fun caps => k (.fn g caps)
  | c => kV0 c k
def kS (st : ST) (k : ST → β) : β := match st with
  | (b, .var cs f) :: st => kL cs fun cs => k ((b, .var cs f) :: st)
  | (b, .row e size cs p) :: st => kL cs fun cs => kN p fun p => k ((b, .row e size cs p) :: st)
  | st => k st

theorem kN_eq (n : Nat) (k : Nat → β) : kN n k = k n := by cases n <;> rfl
theorem kI_eq (n : Int) (k : Int → β) : kI n k = k n := by cases n <;> simp only [kI, kN_eq]
theorem kB_eq (b : Bool) (k : Bool → β) : kB b k = k b := by cases b <;> rfl
theorem kV0_eq (c : V) (k : V → β) : kV0 c k = k c := by
  unfold kV0
  split <;> simp only [kN_eq, kI_eq, kB_eq]
theorem kL_eq : ∀ (cs : List V) (k : List V → β), kL cs k = k cs
  | [], k => rfl
  | c :: cs, k => by simp only [kL, kV0_eq, kL_eq cs]
theorem kV_eq (c : V) (k : V → β) : kV c k = k c := by
  unfold kV
  split <;> simp only [kN_eq, kL_eq, kV0_eq]
theorem kS_eq (st : ST) (k : ST → β) : kS st k = k st := by
  unfold kS
  split <;> simp only [kN_eq, kL_eq]
end

/-- A call: what is called, its arguments, the boxes, the first new number. -/
abbrev XH := V → List V → ST → Nat → Option (V × ST × Nat)

def want (all : List Oper) (tm : TM) : Option (Nat × Bool) → Option Bool
  | none => some true
  | some (j, w) => match (all[j]?).bind (·.dst) with
    | none => none
    | some d => match (look tm d).getD .top with
      | .v (.bool b) => some (b == w)
      | _ => none

/-- The state of an activation: its slots, its marks, the boxes, the first new number. -/
structure XS where
  tm : TM
  ds : List Nat
  st : ST
  nx : Nat
  b0 : Nat

/-- Is a number on a list? -/
def memN (l : List Nat) (j : Nat) : Bool := List.rec (motive := fun _ => Bool) false (fun b _ ih => Bool.rec (motive := fun _ => Bool) ih true (Nat.beq b j)) l

def tidyT : Nat → TM → TM
  | 0, _ => []
  | n + 1, tm => match look tm n with
    | some v => kV0 v fun v => (n, v) :: tidyT n tm
    | none => tidyT n tm
/-- The boxes each once, as far as the activation's own. -/
def tidyS (b0 : Nat) : List Nat → ST → ST
  | _, [] => []
  | seen, (b, x) :: st => match Nat.beq b b0 with
    | true => (b, x) :: st
    | false => match memN seen b with
      | true => tidyS b0 seen st
      | false => (b, x) :: tidyS b0 (b :: seen) st
def tidy (sz : Nat) (s : XS) : XS := ⟨tidyT sz s.tm, s.ds, tidyS s.b0 [] s.st, s.nx, s.b0⟩

/-- The boxes that a value, a box leads to. -/
def refs1 : V → List Nat
  | .box b _ => [b]
  | .osl b _ => [b]
  | .yld b => [b]
  | _ => []
def refs : V → List Nat
  | .fn _ caps => caps.flatMap refs1
  | c => refs1 c
def refsX : Bx → List Nat
  | .var cs _ => cs.flatMap refs
  | .loop r => r.tm.flatMap fun p => refs p.2
  | _ => []
def front (b0 : Nat) : ST → ST
  | [] => []
  | (b, x) :: st => match Nat.beq b b0 with
    | true => []
    | false => (b, x) :: front b0 st
def clo (fr : ST) : Nat → List Nat → List Nat → List Nat
  | 0, _, kept => kept
  | _ + 1, [], kept => kept
  | n + 1, b :: work, kept => match memN kept b with
    | true => clo fr n work kept
    | false => match look fr b with
      | some x => clo fr n (refsX x ++ work) (b :: kept)
      | none => clo fr n work kept
def sieve (p : Nat → Bool) (st : ST) : ST := List.rec (motive := fun _ => ST) [] (fun e _ ih => Bool.rec (motive := fun _ => ST) ih (e :: ih) (p e.1)) st
/-- Boxes of an activation that is over are given up, but for those that it leaves behind. -/
def sweep (top : Nat) (r : V) (st : ST) : ST :=
  let fr := front top st
  let kept := clo fr 1000 (refs r ++ fr.flatMap fun e => match Nat.blt e.1 top with | true => refsX e.2 | false => []) []
  sieve (fun b => Bool.rec (motive := fun _ => Bool) (memN kept b) true (Nat.blt b top)) st

def xloop (f : XS → Option (AX × XS)) (sz : Nat) : Nat → XS → Option (AX × XS)
  | 0, _ => none
  | n + 1, s => match f (tidy sz s) with
    | some (.normal, s') => xloop f sz n s'
    | some (.exit i, s') => some (.exit i, s')
    | some (.ret, s') => some (.ret, s')
    | none => none

section
variable (P : Program) (H : XH) (X : FuncId → Option (List V → Option V))

def xop (top : Nat) (tm : TM) (st : ST) : Op → Option (V × ST × Nat)
  | .call { callee := .value f, args, .. } => H (ev tm f) (args.toList.map (ev tm)) st top
  | .move x => some (ev tm x, st, top)
  | .assign x => some (ev tm x, st, top)
  | op => match (opR P (fun _ => none) top (ev tm) op).x st with
    | some (v, st') => kV v fun v => kS st' fun st' => kN (top + 1) fun top' => some (v, st', top')
    | none => none

def xops (sz : Nat) (all : List Oper) : List Oper → Nat → TM → ST → Option (TM × ST × Nat)
  | [], top, tm, st => some (tm, st, top)
  | o :: os, top, tm, st => match okDst sz o.dst with
    | false => none
    | true => match want all tm o.guard with
      | none => none
      | some false => xops sz all os top (putT tm o.dst .top) st
      | some true => match xop P H top tm st o.op with
        | none => none
        | some (v, st', top') => xops sz all os top' (putT tm o.dst v) st'

def xopT (id : Nat) (tm : TM) : Op → RM
  | .call { callee := .value f, args, .. } => match ev tm f with
    | .fn g caps => match X g with
      | some f => fzs (args.toList.map (ev tm) ++ caps) fun avs => match f avs with
        | some r => .retF r
        | none => .fail
      | none => .fail
    | _ => .fail
  | op => opR P (fun _ => none) id (ev tm) op

def xopsD (sz : Nat) (ops : Array Oper) (nx : Nat) : List Oper → Nat → TM → ST → List (Nat × Oper × List Nat × List Nat) → Option (TM × ST)
  | [], _, tm, st, _ => some (tm, st)
  | o :: os, i, tm, st, prev => match okDst sz o.dst with
    | false => none
    | true => match want ops.toList tm o.guard with
      | none => none
      | some true => match (xopT P X (nx + i) tm o.op).xT st [] [] with
        | none => none
        | some (v, st', rs, ws) => match indepB ops o rs ws prev with
          | false => none
          | true => xopsD sz ops nx os (i + 1) (putT tm o.dst v) st' ((i, o, rs, ws) :: prev)
      | some false => match indepB ops o [] [] prev with
        | false => none
        | true => xopsD sz ops nx os (i + 1) (putT tm o.dst .top) st ((i, o, [], []) :: prev)

/-- A range over a function is begun: its record; outside a round a mark, too. -/
def xenter (rd : Option Nat) (r : Bx) (s : XS) : Option XS := match rd with
  | none => some ⟨s.tm, (s.nx + 1) :: s.ds, (s.nx, r) :: (s.nx + 1, .mark true) :: s.st, s.nx + 2, s.b0⟩
  | some b => match look s.st b with
    | some (.loop _) => some ⟨s.tm, s.ds, (s.nx, r) :: s.st, s.nx + 1, s.b0⟩
    | _ => none

def isBusy : LoopState → Bool
  | .busy => true
  | _ => false
def isReady : LoopState → Bool
  | .ready => true
  | _ => false

/-- rd: in a round of this range over a function. -/
def xcode (fuel sz : Nat) (rd : Option Nat) : Code → XS → Option (AX × XS)
  | .skip, s => some (.normal, s)
  | .region _ ops false, s => match xops P H sz ops.toList ops.toList s.nx s.tm s.st with
    | some (tm, st, nx) => some (.normal, ⟨tm, s.ds, st, nx, s.b0⟩)
    | none => none
  | .region _ ops true, s => match aheadB ops.toList with
    | false => none
    | true => match xopsD P X sz ops s.nx ops.toList 0 s.tm s.st [] with
      | some (tm, st) => kN (s.nx + ops.size) fun nx => some (.normal, ⟨tm, s.ds, st, nx, s.b0⟩)
      | none => none
  | .seq a b, s => match xcode fuel sz rd a s with
    | some (.normal, s') => xcode fuel sz rd b s'
    | some (.exit i, s') => some (.exit i, s')
    | some (.ret, s') => some (.ret, s')
    | none => none
  | .cond c x y, s => match ev s.tm c with
    | .v (.bool true) => xcode fuel sz rd x s
    | .v (.bool false) => xcode fuel sz rd y s
    | _ => none
  | .block i c, s => match xcode fuel sz rd c s with
    | some (.exit j, s') => match Nat.beq j i with
      | true => some (.normal, s')
      | false => some (.exit j, s')
    | some (.normal, s') => some (.normal, s')
    | some (.ret, s') => some (.ret, s')
    | none => none
  | .loop c, s => xloop (fun s => xcode fuel sz rd c s) sz fuel s
  | .exit i, s => some (.exit i, s)
  | .ret, s => some (.ret, s)
  | .rangeFunc f ps assign body, s =>
    match xenter rd (.loop ⟨s.tm, sz, ps, assign, body, .ready, none⟩) s with
    | none => none
    | some s1 => match ev s.tm f with
      | .fn g caps => match H (.fn g caps) [.yld s.nx] s1.st s1.nx with
        | some (_, st2, nx2) => match look st2 s.nx with
          | some (.loop r2) => match isBusy r2.state with
            | true => none
            | false => match r2.pending with
              | none => some (.normal, ⟨s.tm, s1.ds, (s.nx, .loop { r2 with state := .exhausted }) :: st2, nx2, s.b0⟩)
              | some (.exit i) => some (.exit i, ⟨s.tm, s1.ds, (s.nx, .loop { r2 with state := .exhausted }) :: st2, nx2, s.b0⟩)
              | some .ret => some (.ret, ⟨s.tm, s1.ds, (s.nx, .loop { r2 with state := .exhausted }) :: st2, nx2, s.b0⟩)
              | _ => none
          | _ => none
        | none => none
      | _ => none
  | _, _ => none

/-- The results: one as it is; several made clean. -/
def xres (fn : Func) (tm : TM) (st : ST) : Option (V × ST) := match fn.results.toList with
  | [.tmp t] => some ((look tm t).getD .top, st)
  | [.cell a t] => (opR P (fun _ => none) 0 (ev tm) (.load t (.tmp a))).x st
  | l => (resR P tm l []).x st

def xmarks : List Nat → ST → Option ST
  | [], st => some st
  | b :: ds, st => match look st b with
    | some (.mark true) => xmarks ds ((b, .mark false) :: st)
    | _ => none

/-- A function is entered. -/
def xfn (fuel : Nat) (fn : Func) (c : Code) (args : List V) (st : ST) (top : Nat) : Option (V × ST × Nat) :=
  match Nat.ble args.length fn.ntmps with
  | false => none
  | true => match xcode P H X fuel fn.ntmps none c ⟨startT args, [], (top, .dead) :: st, top + 1, top⟩ with
    | none => none
    | some (.exit _, _) => none
    | some (_, s) => match xmarks s.ds s.st with
      | none => none
      | some st1 => match xres P fn s.tm st1 with
        | none => none
        | some (r, st2) => kV0 r fun r => some (r, sweep top r st2, s.nx)

/-- A round of a range over a function. -/
def xround (fuel : Nat) (b : Nat) (args : List V) (st : ST) (top : Nat) : Option (V × ST × Nat) := match look st b with
  | some (.loop r) => match isReady r.state with
    | true => match Nat.beq args.length r.ps.size && r.ps.toList.all fun p => Nat.ble (p + 1) r.sz with
      | false => none
      | true => match xcode P H X fuel r.sz (some b) r.assign ⟨(r.ps.toList.zip args).foldl (fun t p => p :: t) r.tm, [], (top, .dead) :: st, top + 1, top⟩ with
        | some (.normal, s1) => match look s1.st b with
          | some (.loop r1) => match isReady r1.state with
            | true => match xcode P H X fuel r.sz (some b) r.body ⟨s1.tm, s1.ds, (b, .loop { r1 with state := .busy }) :: s1.st, s1.nx, s1.b0⟩ with
              | none => none
              | some (e, s2) => match look s2.st b with
                | some (.loop r2) => match e with
                  | .normal => some (.v (.bool true), sweep top .top ((b, .loop { r2 with state := .ready, pending := none }) :: s2.st), s2.nx)
                  | .exit i => some (.v (.bool false), sweep top .top ((b, .loop { r2 with state := .done, pending := some (.exit i) }) :: s2.st), s2.nx)
                  | .ret => some (.v (.bool false), sweep top .top ((b, .loop { r2 with state := .done, pending := some .ret }) :: s2.st), s2.nx)
                | _ => none
            | false => none
          | _ => none
        | _ => none
    | false => none
  | _ => none
end


/-- The functions that are followed. -/
abbrev XG := FuncId → Option Func

/-- A call on clean values, with no boxes. -/
def xpure (P : Program) (H : XH) (g : FuncId) (avs : List V) : Option V := match H (.fn g []) avs [] 0 with
  | some (r, st, _) => ((fz 4 r .ret).x st).map (·.1)
  | none => none

def xpures (P : Program) (G : XG) (H : XH) (g : FuncId) : Option (List V → Option V) := match G g with
  | some _ => some (xpure P H g)
  | none => none

/-- Calls, to a depth. -/
def xcall (P : Program) (G : XG) (fuel : Nat) : Nat → XH
  | 0 => fun _ _ _ _ => none
  | n + 1 => fun c avs st top => match c with
    | .fn g caps => match G g with
      | some fn => match fn.body with
        | some code => xfn P (xcall P G fuel n) (xpures P G (xcall P G fuel n)) fuel fn code (avs ++ caps) st top
        | none => none
      | none => none
    | .yld b => xround P (xcall P G fuel n) (xpures P G (xcall P G fuel n)) fuel b avs st top
    | _ => none

end
end Go.Ev
/- The evaluator's runs are the model's: operations, regions. -/
set_option linter.unusedVariables false
set_option linter.unusedSimpArgs false
namespace Go.Ev
open Go.RowKit

section
variable {O : Nat → Prop} {w0 : World} {F0 : FZ} {M0 : MP} {D : List Deferred} {U : Nat → Prop} {F : FZ} {m : MP} {sz : Nat} {tm : TM} {st : ST} {a : Act} {w : World}

theorem Rel.act (h : Rel O w0 F0 M0 D U F m sz tm st a w) {D' : List Deferred} {sz' : Nat} {tm' : TM} {a' : Act} (htm : ∀ i, RV m F w.heap ((look tm' i).getD .top) (a'.tmps.getD i undef)) (hsz : a'.tmps.size = sz') (hde : a'.defers = D') :
    Rel O w0 F0 M0 D' U F m sz' tm' st a' w :=
  { htm := htm, hsz := hsz, hde := hde, hst := h.hst, inj := h.inj, fresh := h.fresh, f0 := h.f0, f1 := h.f1, f2 := h.f2, mlt := h.mlt, pin := h.pin, keep := h.keep, below := h.below, hb := h.hb }

/-- Seen from here on. -/
theorem Rel.base (h : Rel O w0 F0 M0 D U F m sz tm st a w) : Rel O w F m D U F m sz tm st a w :=
  { htm := h.htm, hsz := h.hsz, hde := h.hde, hst := h.hst, inj := h.inj, fresh := h.fresh, f0 := fun _ _ e => e, f1 := fun _ _ e => .inl e, f2 := h.f2, mlt := h.mlt, pin := fun _ _ e => e, keep := Keeps.refl _ _, below := Own.refl _ _, hb := fun g hg => h.hb g (Nat.le_trans h.below.size hg) }

theorem Rel.comp (h : Rel O w0 F0 M0 D U F m sz tm st a w) {D' : List Deferred} {U' : Nat → Prop} {F' : FZ} {m' : MP} {sz' : Nat} {tm' : TM} {st' : ST} {a' : Act} {w' : World} (k : Rel O w F m D' U' F' m' sz' tm' st' a' w') :
    Rel O w0 F0 M0 D' U' F' m' sz' tm' st' a' w' :=
  { htm := k.htm, hsz := k.hsz, hde := k.hde, hst := k.hst, inj := k.inj, fresh := k.fresh, f0 := fun g j e => k.f0 g j (h.f0 g j e), f1 := fun g j e => (k.f1 g j e).elim (h.f1 g j) .inr, f2 := k.f2, mlt := k.mlt, pin := fun b y e => k.pin b y (h.pin b y e),
    keep := fun g j e => (k.keep g j (h.f0 g j e)).trans (h.keep g j e), below := h.below.trans k.below, hb := h.hb }

/-- The memory alone. -/
abbrev RelH (O : Nat → Prop) (w0 : World) (F0 : FZ) (M0 : MP) (top : Nat) (F : FZ) (m : MP) (st : ST) (w : World) : Prop := Rel O w0 F0 M0 [] (fun b => top ≤ b) F m 0 [] st ⟨#[], []⟩ w

theorem Rel.toH {top : Nat} (h : Rel O w0 F0 M0 D (fun b => top ≤ b) F m sz tm st a w) : RelH O w F m top F m st w := h.base.act (fun i => trivial) rfl rfl

theorem Rel.heap {top : Nat} (h : Rel O w0 F0 M0 D (fun b => top ≤ b) F m sz tm st a w) : RelH O w0 F0 M0 top F m st w := h.act (tm' := []) (a' := ⟨#[], []⟩) (fun i => trivial) rfl rfl

theorem Rel.back (h : Rel O w0 F0 M0 D U F m sz tm st a w) {top' : Nat} {F' : FZ} {m' : MP} {st' : ST} {w' : World} (k : RelH O w F m top' F' m' st' w') : Rel O w0 F0 M0 D (fun b => top' ≤ b) F' m' sz tm st' a w' :=
  (h.comp k).act (fun i => (h.htm i).mono k.pin k.f0 k.keep) h.hsz h.hde

/-- A new object. -/
theorem Rel.newO (h : Rel O w0 F0 M0 D U F m sz tm st a w) {id cap : Nat} (hU : U id) {o : Obj} {x : Bx} (hx : x ≠ .dead)
    (hbx : ∀ m', (∀ b y, m b = some y → m' b = some y) → m' id = some (w.heap.size, cap) → Keeps F w.heap (w.alloc o).heap →
      (w.alloc o).heap[w.heap.size]? = some o → (∀ j, ¬ F w.heap.size j) → RBx O m' F (w.alloc o).heap id x) :
    Rel O w0 F0 M0 D (fun b => U b ∧ b ≠ id) F (fun b => if b = id then some (w.heap.size, cap) else m b) sz tm ((id, x) :: st) a (w.alloc o) ∧
    (∀ b y, m b = some y → (fun b => if b = id then some (w.heap.size, cap) else m b) b = some y) ∧ Keeps F w.heap (w.alloc o).heap := by
  have hm : ∀ b y, m b = some y → (fun b => if b = id then some (w.heap.size, cap) else m b) b = some y := by
    intro b y hb
    by_cases e : b = id
    · subst e; rw [(h.fresh b hU).2] at hb; cases hb
    · simp [e, hb]
  have hold : ∀ k, k < w.heap.size → (w.alloc o).heap[k]? = w.heap[k]? := fun k hk => Below.heap_alloc w _ _ hk
  have hk : Keeps F w.heap (w.alloc o).heap := fun g j hj => by rw [cellsAt_congr (hold g (h.f2 g j hj))]
  refine ⟨?_, hm, hk⟩
  refine { htm := fun i => (h.htm i).mono hm (fun _ _ e => e) hk, hsz := h.hsz, hde := h.hde, hst := ?_, inj := ?_, fresh := ?_, keep := fun g j hj => (hk g j (h.f0 _ _ hj)).trans (h.keep g j hj), pin := fun b y e => hm b y (h.pin b y e), f0 := h.f0, f1 := h.f1, f2 := ?_, mlt := ?_, below := h.below.alloc h.hb _, hb := h.hb }
  · intro b y hy
    rw [look_cons] at hy
    split at hy
    · next e =>
      subst e; cases hy
      exact hbx _ hm (by simp) hk (by have := heap_alloc_new w o; exact this) (fun j hj => absurd (h.f2 _ _ hj) (by omega))
    · next hne =>
      refine (h.hst b y hy).mono hm (fun _ _ e => e) hk fun g c hg => ⟨hold g (h.mlt _ _ _ hg), fun j hj => hj⟩
  · intro b b' g c c' ha ha' hg hg'
    by_cases e : b = id
    · by_cases e' : b' = id
      · rw [e, e']
      · simp only [e, if_true, Option.some.injEq, Prod.mk.injEq] at hg
        simp only [e', if_false] at hg'
        exact absurd (h.mlt _ _ _ hg') (by omega)
    · by_cases e' : b' = id
      · simp only [e', if_true, Option.some.injEq, Prod.mk.injEq] at hg'
        simp only [e, if_false] at hg
        exact absurd (h.mlt _ _ _ hg) (by omega)
      · simp only [e, if_false] at hg
        simp only [e', if_false] at hg'
        have al : ∀ b, b ≠ id → aliveB ((id, x) :: st) b → aliveB st b := by
          rintro b hb ⟨y, hy, hy0⟩
          rw [look_cons, if_neg (fun e => hb e.symm)] at hy
          exact ⟨y, hy, hy0⟩
        exact h.inj b b' g c c' (al b e ha) (al b' e' ha') hg hg'
  · rintro b ⟨hb, hne⟩
    refine ⟨?_, by simp [hne, (h.fresh b hb).2]⟩
    rw [look_cons, if_neg (fun e => hne e.symm)]
    exact (h.fresh b hb).1
  · intro g j hj
    have := h.f2 g j hj
    simp; omega
  · intro b g c hb
    by_cases e : b = id
    · simp only [e, if_true, Option.some.injEq, Prod.mk.injEq] at hb
      simp; omega
    · simp only [e, if_false] at hb
      have := h.mlt _ _ _ hb
      simp; omega

/-- An object that is no cells is written. -/
theorem Rel.putO (h : Rel O w0 F0 M0 D U F m sz tm st a w) {b g c : Nat} {x0 x1 : Bx} (hl : look st b = some x0) (h0 : x0 ≠ .dead) (h1 : x1 ≠ .dead) (hm : m b = some (g, c)) (hg : O g) (hF : ∀ j, ¬ F g j) {o : Obj}
    (hx : Keeps F w.heap (w.putObj g o).heap → (w.putObj g o).heap[g]? = some o → RBx O m F (w.putObj g o).heap b x1) :
    Rel O w0 F0 M0 D U F m sz tm ((b, x1) :: st) a (w.putObj g o) := by
  have hlt := h.mlt _ _ _ hm
  have hnew : (w.putObj g o).heap[g]? = some o := World.putObj_heap_same hlt
  have hk : Keeps F w.heap (w.putObj g o).heap := by
    intro k j hj
    by_cases e : k = g
    · subst e; exact absurd hj (hF j)
    · rw [cellsAt_congr (World.putObj_heap_other e)]
  have hal : ∀ b', aliveB ((b, x1) :: st) b' → aliveB st b' := by
    rintro b' ⟨y, hy, hy0⟩
    rw [look_cons] at hy
    split at hy
    · next e => subst e; exact ⟨x0, hl, h0⟩
    · exact ⟨y, hy, hy0⟩
  refine { htm := fun i => (h.htm i).mono (fun _ _ e => e) (fun _ _ e => e) hk, hsz := h.hsz, hde := h.hde, hst := ?_, inj := fun b1 b2 g' c1 c2 a1 a2 => h.inj b1 b2 g' c1 c2 (hal _ a1) (hal _ a2), fresh := ?_, keep := fun g j hj => (hk g j (h.f0 _ _ hj)).trans (h.keep g j hj), pin := h.pin, f0 := h.f0, f1 := h.f1, f2 := ?_, mlt := ?_, below := ?_, hb := h.hb }
  · intro b' y hy
    rw [look_cons] at hy
    split at hy
    · next e => subst e; cases hy; exact hx hk hnew
    · next hne =>
      by_cases hd : y = .dead
      · subst hd; trivial
      refine (h.hst b' y hy).mono (fun _ _ e => e) (fun _ _ e => e) hk fun g' c' hm' => ⟨?_, fun j hj => hj⟩
      refine World.putObj_heap_other ?_
      rintro rfl
      exact hne (h.inj b b' _ c c' ⟨x0, hl, h0⟩ ⟨y, hy, hd⟩ hm hm')
  · intro b' hb'
    obtain ⟨e1, e2⟩ := h.fresh b' hb'
    refine ⟨?_, e2⟩
    rw [look_cons, if_neg (fun e => by subst e; rw [hl] at e1; cases e1)]
    exact e1
  · intro k j hj; have := h.f2 k j hj; simpa using this
  · intro b g c hb; have := h.mlt b g c hb; simpa using this
  · exact h.below.trans ⟨rfl, rfl, rfl, by simp, fun k hno => World.putObj_heap_other (fun e => hno (e ▸ hg))⟩
end

section
variable {P : Program}

def RVl (m : MP) (F : FZ) (H : Array Obj) (cs : List V) (xs : List Value) : Prop := cs.length = xs.length ∧ ∀ (i : Nat) (c : V) (x : Value), cs[i]? = some c → xs[i]? = some x → RV m F H c x

/-- What a call leaves behind. -/
def After (O : Nat → Prop) (w : World) (F : FZ) (m : MP) (st' : ST) (top' : Nat) (r : V) (e : Ending) (w' : World) : Prop :=
  ∃ v F' m', e = .returned v ∧ RelH O w F m top' F' m' st' w' ∧ RV m' F' w'.heap r v

def FnOK (P : Program) (g : FuncId) (args : List V) (st : ST) (top : Nat) (r : V) (st' : ST) (top' : Nat) : Prop :=
  ∀ (O : Nat → Prop) (F : FZ) (m : MP) (w : World) (vs : List Value), RelH O w F m top F m st w → RVl m F w.heap args vs → Calls P g vs.toArray w (After O w F m st' top' r)

def YldOK (P : Program) (b : Nat) (args : List V) (st : ST) (top : Nat) (r : V) (st' : ST) (top' : Nat) : Prop :=
  ∀ (O : Nat → Prop) (F : FZ) (m : MP) (w : World) (vs : List Value), RelH O w F m top F m st w → RVl m F w.heap args vs → ∀ g c, m b = some (g, c) →
    ∃ fn tmps assign body, (Instr.yield g vs.toArray).run P w = .ok (.round g fn tmps assign body) w ∧ ∀ FF, Wide FF → RoundIn FF 0 P g fn tmps assign body w (After O w F m st' top' r)

/-- Calls are followed as the model does. -/
def HOK (P : Program) (H : XH) : Prop := ∀ c avs st top r st' top', H c avs st top = some (r, st', top') → match c with
  | .fn g caps => EntersOK P g ∧ FnOK P g (avs ++ caps) st top r st' top'
  | .yld b => YldOK P b avs st top r st' top'
  | _ => False

theorem xop_ok {H : XH} (hH : HOK P H) (o : Oper) {O : Nat → Prop} {w0 : World} {F0 : FZ} {M0 : MP} {D : List Deferred} {F : FZ} {m : MP} {sz : Nat} {tm : TM} {st : ST} {a : Act} {w : World} {top : Nat} {v : V} {st' : ST} {top' : Nat} {next : Act → World → Prop} {Q : Exit → Act → World → Prop}
    (h : Rel O w0 F0 M0 D (fun b => top ≤ b) F m sz tm st a w) (hd : okDst sz o.dst = true) (hx : xop P H top tm st o.op = some (v, st', top'))
    (hn : ∀ F' m' a' w', Rel O w0 F0 M0 D (fun b => top' ≤ b) F' m' sz (putT tm o.dst v) st' a' w' → next a' w') : o.wpX P a w next Q := by
  have plain : (∀ v' st1, (opR P (fun _ => none) top (ev tm) o.op).x st = some (v', st1) → v' = v → st1 = st' → top' = top + 1 → o.wpX P a w next Q) := by
    rintro v' st1 he rfl rfl rfl
    refine op_ok (C := fun _ => none) ctx_nil o h (id := top) (Nat.le_refl _) hd (K := fun c s => c = v' ∧ s = st1) (RM.x_go _ _ _ _ he ⟨rfl, rfl⟩) ?_
    rintro F' m' c s a' w' hR ⟨rfl, rfl⟩
    exact hn F' m' a' w' (hR.weakU fun b hb => ⟨by omega, by omega⟩)
  have plain' : (match (opR P (fun _ => none) top (ev tm) o.op).x st with
      | some (v, st') => kV v fun v => kS st' fun st' => kN (top + 1) fun top' => some (v, st', top')
      | none => none) = some (v, st', top') → o.wpX P a w next Q := by
    intro he
    simp only [kV_eq, kS_eq, kN_eq] at he
    split at he
    · next v1 s1 h1 => cases he; exact plain _ _ h1 rfl rfl rfl
    · cases he
  have mv : ∀ x, (o.op = .move x ∨ o.op = .assign x) → some (ev tm x, st, top) = some (v, st', top') → o.wpX P a w next Q := by
    intro x ho he
    cases he
    exact fin_value (by rcases ho with ho | ho <;> simp [execOp, ho]) (hn F m _ _ (h.put hd (h.ev x)))
  cases ho : o.op with
  | move x => exact mv x (.inl ho) (by rw [ho] at hx; exact hx)
  | assign x => exact mv x (.inr ho) (by rw [ho] at hx; exact hx)
  | call c =>
    obtain ⟨callee, args, ts⟩ := c
    cases callee with
    | value f =>
      rw [ho] at hx
      have hx : H (ev tm f) (args.toList.map (ev tm)) st top = some (v, st', top') := hx
      have hf := h.ev f
      obtain ⟨hal, hav⟩ := args_rel h args.toList
      have hcall := hH _ _ _ _ _ _ _ hx
      revert hcall hf
      generalize ev tm f = cf
      intro hf hcall
      cases cf with
      | fn g caps =>
        obtain ⟨henter, hok⟩ := hcall
        obtain ⟨arr, hf', hl, hv⟩ := hf
        have hval : RVl m F w.heap (args.toList.map (ev tm) ++ caps) (args.toList.map a.eval ++ arr.toList) := by
          refine ⟨by rw [List.length_append, List.length_append, hal, hl], fun i c x hc hx => ?_⟩
          by_cases hi : i < (args.toList.map (ev tm)).length
          · rw [List.getElem?_append_left hi] at hc
            rw [List.getElem?_append_left (by omega)] at hx
            exact hav i c x hc hx
          · rw [List.getElem?_append_right (by omega)] at hc
            rw [List.getElem?_append_right (by omega), ← hal] at hx
            exact RV.of_RP (hv _ c x hc hx)
        have hrun : (execOp a.eval o).run P w = .ok (.enter g (args.toList.map a.eval ++ arr.toList).toArray) w := by
          simp only [execOp, ho, resolve, Deferred.ofValue, hf', Sem.run_bind, Sem.run_pure, Result.andThen_ok, invoke]
          have e : (#[] ++ args.map a.eval ++ arr) = (args.toList.map a.eval ++ arr.toList).toArray := by
            apply Array.ext'
            simp
          rw [e, henter]
        intro FF hW
        refine ⟨fun f _ => hW.fn f, ?_⟩
        rw [Oper.semAt_eq _ _ _ (not_defer hrun (fun d e => by cases e)), hrun]
        refine ⟨fun e => (by rw [hW.dep] at e; cases e), (callsIn_of_calls hW ?_)⟩
        refine (hok O F m w _ h.toH hval).mono ?_
        rintro e w' ⟨x, F', m', rfl, hR, hr⟩
        exact hn F' m' _ _ ((h.back hR).put hd hr)
      | yld b =>
        obtain ⟨g, c, hm, hf'⟩ := hf
        obtain ⟨fn, tmps, assign, body, hy, hround⟩ := hcall O F m w (args.toList.map a.eval) h.toH ⟨hal, hav⟩ g c hm
        have hrun : (execOp a.eval o).run P w = .ok (.round g fn tmps assign body) w := by
          simp only [execOp, ho, resolve, Deferred.ofValue, hf', Sem.run_bind, Sem.run_pure, Result.andThen_ok, invoke]
          have e : (#[] ++ args.map a.eval) = (args.toList.map a.eval).toArray := by
            apply Array.ext'
            simp
          rw [e, hy]
        intro FF hW
        refine ⟨fun f _ => hW.fn f, ?_⟩
        rw [Oper.semAt_eq _ _ _ (not_defer hrun (fun d e => by cases e)), hrun]
        refine ⟨fun e => (by rw [hW.dep] at e; cases e), (hround FF hW).mono ?_⟩
        rintro e w' ⟨x, F', m', rfl, hR, hr⟩
        exact hn F' m' _ _ ((h.back hR).put hd hr)
      | _ => exact hcall.elim
    | builtin b => exact plain' (by rw [ho] at hx ⊢; exact hx)
    | invoke r n => exact plain' (by rw [ho] at hx ⊢; exact hx)
  | _ => exact plain' (by rw [ho] at hx ⊢; exact hx)

theorem want_some {O : Nat → Prop} {w0 : World} {F0 : FZ} {M0 : MP} {D : List Deferred} {U : Nat → Prop} {F : FZ} {m : MP} {sz : Nat} {tm : TM} {st : ST} {a : Act} {w : World} (h : Rel O w0 F0 M0 D U F m sz tm st a w)
    {ops : Array Oper} {o : Oper} {b : Bool} (hw : want ops.toList tm o.guard = some b) : Region.wanted o (yielded ops a.tmps) = b := by
  unfold want at hw
  split at hw
  · next hg => cases hw; simp [Region.wanted, hg]
  · next j wt hg =>
    split at hw
    · cases hw
    · next d hd =>
      split at hw
      · next q hq =>
        cases hw
        have hy := yielded_of h hd hq
        simp [Region.wanted, hg, hy]
      · cases hw

/-- A region in the order of the text. -/
theorem xops_sound {H : XH} (hH : HOK P H) {FF : Fence} (hW : Wide FF) {O : Nat → Prop} {w0 : World} {F0 : FZ} {M0 : MP} {D : List Deferred} {sz : Nat} {ops : Array Oper} {Q : Exit → Act → World → Prop} {tm' : TM} {st' : ST} {nx' : Nat}
    (hn : ∀ F' m' a' w', Rel O w0 F0 M0 D (fun b => nx' ≤ b) F' m' sz tm' st' a' w' → Q .normal a' w') :
    ∀ (l : List Oper) (k : Nat) (top : Nat) (F : FZ) (m : MP) (tm : TM) (st : ST) (a : Act) (w : World), ops.toList.drop k = l → Rel O w0 F0 M0 D (fun b => top ≤ b) F m sz tm st a w →
      xops P H sz ops.toList l top tm st = some (tm', st', nx') → wpOpsIn FF 0 P ops Q ((List.range ops.size).drop k) a w
  | [], k, top, F, m, tm, st, a, w, hl, h, hg => by
    have hk : ops.size ≤ k := by
      have := congrArg List.length hl
      simp at this
      omega
    rw [List.drop_of_length_le (by simpa using hk)]
    cases hg
    exact hn F m a w h
  | o :: l, k, top, F, m, tm, st, a, w, hl, h, hg => by
    have hk : k < ops.size := by
      have := congrArg List.length hl
      simp at this
      omega
    have ho : ops[k]? = some o := by
      have : (ops.toList.drop k)[0]? = some o := by rw [hl]; rfl
      rw [List.getElem?_drop, Nat.add_zero, Array.getElem?_toList] at this
      exact this
    have hl' : ops.toList.drop (k + 1) = l := by
      rw [← List.drop_drop, hl]; rfl
    have hr : (List.range ops.size).drop k = k :: (List.range ops.size).drop (k + 1) := by
      rw [List.drop_eq_getElem_cons (by simpa using hk)]
      simp
    rw [hr]
    simp only [wpOpsIn, ho]
    simp only [xops] at hg
    split at hg
    · cases hg
    · next hd =>
      split at hg
      · cases hg
      · next hw =>
        have hw' := want_some h hw
        rw [if_neg (by rw [hw']; simp)]
        exact ⟨fun f _ => hW.fn f, xops_sound hH hW hn l (k + 1) top F m _ st _ w hl' (h.put hd (c := .top) trivial) hg⟩
      · next hw =>
        have hw' := want_some h hw
        rw [if_pos hw']
        split at hg
        · cases hg
        · next v st1 top1 hx =>
          refine xop_ok hH o h hd hx ?_ FF hW
          intro F1 m1 a1 w1 hR
          exact xops_sound hH hW hn l (k + 1) top1 F1 m1 _ st1 a1 w1 hl' hR hg
end
end Go.Ev
/- The evaluator's runs are the model's: regions whose order is open; code. -/
set_option linter.unusedVariables false
set_option linter.unusedSimpArgs false
namespace Go.Ev
open Go.RowKit

theorem dec_xT {p : Prop} [d : Decidable p] {k : RM} {st : ST} {rs ws : List Nat} {z : V × ST × List Nat × List Nat} (h : (RM.dec p k).xT st rs ws = some z) : p ∧ k.xT st rs ws = some z := by
  cases d with
  | isTrue hp => exact ⟨hp, h⟩
  | isFalse _ => cases h

theorem RM.xT_go {K : V → ST → List Nat → List Nat → Prop} : ∀ (r : RM) (st : ST) (rs ws : List Nat) (v : V) (st' : ST) (rs' ws' : List Nat), r.xT st rs ws = some (v, st', rs', ws') → K v st' rs' ws' → r.goT st rs ws K
  | .fail, _, _, _, _, _, _, _, h, _ => by cases h
  | .ret _, _, _, _, _, _, _, _, h, hk => by cases h; exact hk
  | .req _ _, _, _, _, _, _, _, _, h, _ => by cases h
  | @RM.dec p k d, st, rs, ws, v, st', rs', ws', h, hk => by
    obtain ⟨hp, h⟩ := dec_xT h
    exact ⟨hp, xT_go k st rs ws v st' rs' ws' h hk⟩
  | .exi _ _ _, _, _, _, _, _, _, _, h, _ => by cases h
  | .get b k, st, rs, ws, v, st', rs', ws', h, hk => by
    simp only [RM.xT] at h
    simp only [RM.goT]
    split at h
    · next y hy => simp only [hy]; exact xT_go (k y) st (b :: rs) ws v st' rs' ws' h hk
    · cases h
  | .put b y k, st, rs, ws, v, st', rs', ws', h, hk => xT_go k _ rs (b :: ws) v st' rs' ws' h hk

section
variable {K : V → ST → List Nat → List Nat → Prop} {z : V × ST × List Nat × List Nat}

theorem mapRM_xT {f : V → (V → RM) → RM} (hf : ∀ (c : V) (k1 k2 : V → RM) (st : ST) (rs ws : List Nat), (f c k1).xT st rs ws = some z → (∀ c' st rs ws, (k1 c').xT st rs ws = some z → (k2 c').goT st rs ws K) → (f c k2).goT st rs ws K) :
    ∀ (cs : List V) (k1 k2 : List V → RM) (st : ST) (rs ws : List Nat), (mapRM f cs k1).xT st rs ws = some z → (∀ cs' st rs ws, (k1 cs').xT st rs ws = some z → (k2 cs').goT st rs ws K) → (mapRM f cs k2).goT st rs ws K
  | [], k1, k2, st, rs, ws, h, hk => hk [] st rs ws h
  | c :: cs, k1, k2, st, rs, ws, h, hk => hf c _ _ st rs ws h fun c' st1 rs1 ws1 h1 => mapRM_xT hf cs _ _ st1 rs1 ws1 h1 fun cs' st2 rs2 ws2 h2 => hk _ st2 rs2 ws2 h2

theorem fz_xT : ∀ (d : Nat) (c : V) (k1 k2 : V → RM) (st : ST) (rs ws : List Nat), (fz d c k1).xT st rs ws = some z → (∀ c' st rs ws, (k1 c').xT st rs ws = some z → (k2 c').goT st rs ws K) → (fz d c k2).goT st rs ws K
  | 0, _, _, _, _, _, _, h, _ => by cases h
  | d + 1, c, k1, k2, st, rs, ws, h, hk => by
    have ih := fz_xT d
    cases c with
    | osl b n =>
      simp only [fz, RM.xT] at h
      simp only [fz, RM.goT]
      split at h
      · next y hy =>
        simp only [hy]
        cases y with
        | row e size cs p =>
          obtain ⟨hp, h⟩ := dec_xT h
          exact ⟨hp, hk _ _ _ _ h⟩
        | _ => cases h
      · cases h
    | box b off =>
      simp only [fz, RM.xT] at h
      simp only [fz, RM.goT]
      split at h
      · next y hy =>
        simp only [hy]
        cases y with
        | row e size cs p => exact hk _ _ _ _ h
        | var cs f => exact mapRM_xT (fun c k1 k2 st rs ws => ih c k1 k2 st rs ws) cs _ _ _ _ _ h fun cs' st1 rs1 ws1 h1 => hk _ _ _ _ h1
        | _ => cases h
      · cases h
    | fn g caps => exact mapRM_xT (fun c k1 k2 st rs ws => ih c k1 k2 st rs ws) caps _ _ _ _ _ h fun cs' st1 rs1 ws1 h1 => hk _ _ _ _ h1
    | yld b => cases h
    | top => exact hk _ _ _ _ h
    | v y => exact hk _ _ _ _ h
    | agg cs => exact hk _ _ _ _ h
    | tup cs => exact hk _ _ _ _ h
    | sl cs n => exact hk _ _ _ _ h
    | fptr cs => exact hk _ _ _ _ h
end

/-- What a function returns, by a run. -/
def conX (f : List V → Option V) : Con := { α := List V × V, enc := Prod.fst, ok := fun x => f x.1 = some x.2, res := Prod.snd }
def ctxX (X : FuncId → Option (List V → Option V)) : FuncId → Option Con := fun g => match X g with
  | some f => some (conX f)
  | none => none

section
variable {P : Program} {X : FuncId → Option (List V → Option V)}

theorem xopT_go {K : V → ST → List Nat → List Nat → Prop} {id : Nat} {tm : TM} {op : Op} {st : ST} {v : V} {st' : ST} {rs' ws' : List Nat} (h : (xopT P X id tm op).xT st [] [] = some (v, st', rs', ws')) (hk : K v st' rs' ws') :
    (opR P (ctxX X) id (ev tm) op).goT st [] [] K := by
  have plain : xopT P X id tm op = opR P (fun _ => none) id (ev tm) op → opR P (fun _ => none) id (ev tm) op = opR P (ctxX X) id (ev tm) op → (opR P (ctxX X) id (ev tm) op).goT st [] [] K := by
    intro e1 e2
    rw [← e2, ← e1]
    exact RM.xT_go _ _ _ _ _ _ _ _ h hk
  cases op with
  | call c =>
    obtain ⟨callee, args, ts⟩ := c
    cases callee with
    | value f =>
      simp only [xopT] at h
      simp only [opR]
      split at h
      · next g caps hg =>
        simp only [hg, ctxX]
        split at h
        · next fx hfx =>
          simp only [hfx, conX]
          refine mapRM_xT (fun c k1 k2 st rs ws => fz_xT 4 c k1 k2 st rs ws) _ _ _ _ _ _ h ?_
          intro avs st1 rs1 ws1 h1
          split at h1
          · next r hr =>
            rw [RM.retF_eq] at h1 
            refine ⟨(avs, r), ⟨rfl, hr⟩, ?_⟩
            show (RM.retF r).goT _ _ _ _
            rw [RM.retF_eq]
            cases h1
            exact hk
          · cases h1
        · cases h
      · cases h
    | builtin b => exact plain rfl rfl
    | invoke r n => exact plain rfl rfl
  | _ => exact plain rfl rfl

theorem want_br {all : List Oper} {tm : TM} {o : Oper} {b : Bool} (hw : want all tm o.guard = some b) : (o.guard = none ∧ b = true) ∨ ∃ j wt d q, o.guard = some (j, wt) ∧ (all[j]?).bind (·.dst) = some d ∧ (look tm d).getD .top = .v (.bool q) ∧ b = (q == wt) := by
  unfold want at hw
  split at hw
  · next hg => cases hw; exact .inl ⟨hg, rfl⟩
  · next j wt hg =>
    split at hw
    · cases hw
    · next d hd =>
      split at hw
      · next q hq => cases hw; exact .inr ⟨j, wt, d, q, hg, hd, hq, rfl⟩
      · cases hw

theorem xopsD_ev {sz : Nat} {ops : Array Oper} {nx : Nat} {K : TM → ST → Prop} {tm' : TM} {st' : ST} (hk : K tm' st') : ∀ (l : List Oper) (i : Nat) (tm : TM) (st : ST) (prev : List (Nat × Oper × List Nat × List Nat)),
    xopsD P X sz ops nx l i tm st prev = some (tm', st') → evOpsD P (ctxX X) sz ops nx l i tm st prev K
  | [], i, tm, st, prev, h => by cases h; exact hk
  | o :: os, i, tm, st, prev, h => by
    simp only [xopsD] at h
    unfold evOpsD
    split at h
    · cases h
    · next hd =>
      simp only [hd]
      split at h
      · cases h
      · next hw =>
        split at h
        · cases h
        · next v st1 rs1 ws1 hx =>
          split at h
          · cases h
          · next hi =>
            have go := xopT_go (K := fun v st' rs ws => match indepB ops o rs ws prev with
              | false => False
              | true => evOpsD P (ctxX X) sz ops nx os (i + 1) (putT tm o.dst v) st' ((i, o, rs, ws) :: prev) K) hx (by simp only [hi]; exact xopsD_ev hk os (i + 1) _ _ _ h)
            rcases want_br hw with ⟨hg, _⟩ | ⟨j, wt, d, q, hg, hdj, hq, hb⟩
            · simp only [hg]; exact go
            · simp only [hg, hdj, hq]
              have : q = wt := by simpa using hb.symm
              subst this
              cases q with
              | true => exact go
              | false => exact go
      · next hw =>
        split at h
        · cases h
        · next hi =>
          have go := xopsD_ev hk os (i + 1) _ _ _ h
          rcases want_br hw with ⟨_, hb⟩ | ⟨j, wt, d, q, hg, hdj, hq, hb⟩
          · cases hb
          · simp only [hg, hdj, hq]
            cases q with
            | true =>
              cases wt with
              | true => cases hb
              | false => simp only [br, hi]; exact go
            | false =>
              cases wt with
              | true => simp only [br, hi]; exact go
              | false => cases hb
end

/-- The marks of an activation. -/
def MarksR (m : MP) : List Nat → List Deferred → Prop
  | [], [] => True
  | b :: ds, d :: D => (∃ g c, m b = some (g, c) ∧ d = { target := .collected g, args := #[] }) ∧ MarksR m ds D
  | _, _ => False

theorem MarksR.mono {m m' : MP} (hm : ∀ b y, m b = some y → m' b = some y) : ∀ {ds : List Nat} {D : List Deferred}, MarksR m ds D → MarksR m' ds D
  | [], [], _ => trivial
  | b :: ds, d :: D, ⟨⟨g, c, h1, h2⟩, h3⟩ => ⟨⟨g, c, hm _ _ h1, h2⟩, h3.mono hm⟩
  | [], _ :: _, h => h.elim
  | _ :: _, [], h => h.elim

theorem look_tidyT : ∀ (n : Nat) {tm : TM} {i : Nat} {v : V}, look (tidyT n tm) i = some v → look tm i = some v
  | 0, _, _, _, h => by cases h
  | n + 1, tm, i, v, h => by
    simp only [tidyT] at h
    split at h
    · next u hu =>
      rw [kV0_eq, look_cons] at h
      split at h
      · next e => subst e; cases h; exact hu
      · exact look_tidyT n h
    · exact look_tidyT n h

theorem memN_cons (b j : Nat) (l : List Nat) : memN (b :: l) j = (Nat.beq b j || memN l j) := by
  show Bool.rec (motive := fun _ => Bool) (memN l j) true (Nat.beq b j) = _
  cases Nat.beq b j <;> rfl

theorem beq_ne {b j : Nat} (h : ¬ b = j) : Nat.beq b j = false := by
  cases e : Nat.beq b j with
  | false => rfl
  | true => exact absurd (Nat.eq_of_beq_eq_true e) h

theorem look_tidyS (b0 : Nat) : ∀ (st : ST) (seen : List Nat) (j : Nat), memN seen j = false → look (tidyS b0 seen st) j = look st j
  | [], _, _, _ => rfl
  | (b, x) :: st, seen, j, h => by
    simp only [tidyS]
    split
    · rfl
    · split
      · next hb =>
        rw [look_cons, if_neg (by rintro rfl; rw [hb] at h; cases h)]
        exact look_tidyS b0 st seen j h
      · next hb =>
        rw [look_cons, look_cons]
        split
        · rfl
        · next hne => exact look_tidyS b0 st (b :: seen) j (by rw [memN_cons, beq_ne hne, h]; rfl)

theorem look_sieve (p : Nat → Bool) : ∀ (st : ST) (j : Nat), look (sieve p st) j = if p j = true then look st j else none
  | [], j => by simp [sieve]
  | (b, x) :: st, j => by
    have ih := look_sieve p st j
    have e : sieve p ((b, x) :: st) = Bool.rec (motive := fun _ => ST) (sieve p st) ((b, x) :: sieve p st) (p b) := rfl
    rw [e]
    cases hb : p b with
    | false =>
      show look (sieve p st) j = _
      rw [ih, look_cons]
      by_cases hj : b = j
      · subst hj; simp [hb]
      · rw [if_neg hj]
    | true =>
      show look ((b, x) :: sieve p st) j = _
      rw [look_cons, look_cons, ih]
      by_cases hj : b = j
      · subst hj; simp [hb]
      · simp [hj]

section
variable {O : Nat → Prop} {w0 : World} {F0 : FZ} {M0 : MP} {D : List Deferred} {U : Nat → Prop} {F : FZ} {m : MP} {sz : Nat} {tm : TM} {st : ST} {a : Act} {w : World}
theorem Rel.sieve (h : Rel O w0 F0 M0 D U F m sz tm st a w) (p : Nat → Bool) : Rel O w0 F0 M0 D U F m sz tm (sieve p st) a w := by
  have hl : ∀ b x, look (Go.Ev.sieve p st) b = some x → look st b = some x := by
    intro b x hx
    rw [look_sieve] at hx
    split at hx
    · exact hx
    · cases hx
  have hal : ∀ b, aliveB (Go.Ev.sieve p st) b → aliveB st b := by rintro b ⟨x, hx, h0⟩; exact ⟨x, hl b x hx, h0⟩
  exact { h with hst := fun b x hx => h.hst b x (hl b x hx), inj := fun b b' g c c' a1 a2 => h.inj b b' g c c' (hal b a1) (hal b' a2), fresh := fun b hb => ⟨by rw [look_sieve, (h.fresh b hb).1]; simp, (h.fresh b hb).2⟩ }

theorem Rel.sweep (h : Rel O w0 F0 M0 D U F m sz tm st a w) (top : Nat) (r : V) : Rel O w0 F0 M0 D U F m sz tm (sweep top r st) a w := by
  unfold Go.Ev.sweep
  exact h.sieve _

theorem Rel.sent {top : Nat} (h : Rel O w0 F0 M0 D (fun b => top ≤ b) F m sz tm st a w) : Rel O w0 F0 M0 D (fun b => top + 1 ≤ b) F m sz tm ((top, .dead) :: st) a w := by
  have hal : ∀ b, aliveB ((top, .dead) :: st) b → aliveB st b := by
    rintro b ⟨x, hx, h0⟩
    rw [look_cons] at hx
    split at hx
    · cases hx; exact absurd rfl h0
    · exact ⟨x, hx, h0⟩
  refine { h with hst := fun b x hx => ?_, inj := fun b b' g c c' a1 a2 => h.inj b b' g c c' (hal b a1) (hal b' a2), fresh := fun b hb => ⟨?_, (h.fresh b (by omega)).2⟩ }
  · rw [look_cons] at hx
    split at hx
    · cases hx; trivial
    · exact h.hst b x hx
  · rw [look_cons, if_neg (by omega)]
    exact (h.fresh b (by omega)).1

theorem Rel.tidy (h : Rel O w0 F0 M0 D U F m sz tm st a w) (n b0 : Nat) : Rel O w0 F0 M0 D U F m sz (tidyT n tm) (tidyS b0 [] st) a w := by
  refine (h.congr (st' := tidyS b0 [] st) fun j => look_tidyS b0 st [] j rfl).act (fun i => ?_) h.hsz h.hde
  cases hl : look (tidyT n tm) i with
  | none => exact trivial
  | some v =>
    have := h.htm i
    rw [look_tidyT n hl] at this
    exact this
end

/-- The frame of a round knows its record. -/
def RdOK (m : MP) (FF : Fence) : Option Nat → Prop
  | none => FF.round = none
  | some b => ∃ l c, FF.round = some l ∧ m b = some (l, c)

theorem RdOK.mono {m m' : MP} (hm : ∀ b y, m b = some y → m' b = some y) {FF : Fence} : ∀ {rd : Option Nat}, RdOK m FF rd → RdOK m' FF rd
  | none, h => h
  | some b, ⟨l, c, h1, h2⟩ => ⟨l, c, h1, hm _ _ h2⟩

def exOf : AX → Exit
  | .normal => .normal
  | .exit i => .exit i
  | .ret => .ret

section
variable {P : Program} {H : XH} {X : FuncId → Option (List V → Option V)}

theorem xloop_sound {f : XS → Option (AX × XS)} {FF : Fence} {O : Nat → Prop} {w0 : World} {F0 : FZ} {m0 : MP} {sz : Nat} {c : Code} {e : AX} {s' : XS} {QQ : Exit → Act → World → Prop}
    (hq : ∀ a' w' F' m' D', Rel O w0 F0 m0 D' (fun b => s'.nx ≤ b) F' m' sz s'.tm s'.st a' w' → MarksR m' s'.ds D' → QQ (exOf e) a' w')
    (hf : ∀ (s : XS) (e1 : AX) (s1 : XS), f s = some (e1, s1) → ∀ (QQ : Exit → Act → World → Prop) (F : FZ) (m : MP) (D : List Deferred) (a : Act) (w : World), Rel O w0 F0 m0 D (fun b => s.nx ≤ b) F m sz s.tm s.st a w → MarksR m s.ds D →
      (∀ a' w' F' m' D', Rel O w0 F0 m0 D' (fun b => s1.nx ≤ b) F' m' sz s1.tm s1.st a' w' → MarksR m' s1.ds D' → QQ (exOf e1) a' w') → c.wpIn FF 0 P QQ a w)
    {n : Nat} {s : XS} (h : xloop f sz n s = some (e, s')) {F : FZ} {m : MP} {D : List Deferred} {a : Act} {w : World} (hR : Rel O w0 F0 m0 D (fun b => s.nx ≤ b) F m sz s.tm s.st a w) (hM : MarksR m s.ds D) : (Code.loop c).wpIn FF 0 P QQ a w := by
  refine wpIn_loop_ghost (fun k a w => ∃ s F m D, xloop f sz k s = some (e, s') ∧ Rel O w0 F0 m0 D (fun b => s.nx ≤ b) F m sz s.tm s.st a w ∧ MarksR m s.ds D) n ⟨s, F, m, D, h, hR, hM⟩ ?_
  rintro k a w ⟨s, F, m, D, h, hR, hM⟩
  cases k with
  | zero => cases h
  | succ k =>
    simp only [xloop] at h
    have hR' : Rel O w0 F0 m0 D (fun b => (tidy sz s).nx ≤ b) F m sz (tidy sz s).tm (tidy sz s).st a w := hR.tidy sz s.b0
    split at h
    · next s1 h1 => exact hf _ _ _ h1 _ F m D a w hR' hM fun a' w' F' m' D' r1 r2 => ⟨k, Nat.lt_succ_self k, s1, F', m', D', h, r1, r2⟩
    · next i s1 h1 => cases h; exact hf _ _ _ h1 _ F m D a w hR' hM fun a' w' F' m' D' r1 r2 => hq a' w' F' m' D' r1 r2
    · next s1 h1 => cases h; exact hf _ _ _ h1 _ F m D a w hR' hM fun a' w' F' m' D' r1 r2 => hq a' w' F' m' D' r1 r2
    · cases h
end
end Go.Ev
/- The evaluator's runs are the model's: code, with ranges over functions. -/
set_option linter.unusedVariables false
set_option linter.unusedSimpArgs false
namespace Go.Ev
open Go.RowKit

section
variable {P : Program} {H : XH} {X : FuncId → Option (List V → Option V)}

/-- The record of a loop, and what is asked behind the call. -/
theorem range_end {FF : Fence} {O : Nat → Prop} {w0 w1 w2 : World} {F0 : FZ} {M0 : MP} {sz : Nat} {tm : TM} {a a' : Act} {D D' : List Deferred} {U : Nat → Prop} {F2 F3 : FZ} {m2 m3 : MP} {st1 st2 : ST} {nx2 : Nat} {b l c : Nat} {r2 : LoopX} {ds : List Nat}
    {e : AX} {j : Option Code} {QQ : Exit → Act → World → Prop}
    (hR : Rel O w0 F0 M0 D U F2 m2 sz tm st1 a w1) (hk : RelH O w1 F2 m2 nx2 F3 m3 st2 w2) (ha : a'.tmps = a.tmps) (hD : a'.defers = D') (hb : m2 b = some (l, c)) (hl : look st2 b = some (.loop r2)) (hbusy : isBusy r2.state = false) (hM : MarksR m2 ds D')
    (hj : r2.pending = j) (hje : (e = .normal ∧ j = none) ∨ (∃ i, e = .exit i ∧ j = some (.exit i)) ∨ (e = .ret ∧ j = some .ret))
    (hq : ∀ w3 F' m', Rel O w0 F0 M0 D' (fun b => nx2 ≤ b) F' m' sz tm ((b, .loop { r2 with state := .exhausted }) :: st2) a' w3 → (∀ b y, m2 b = some y → m' b = some y) → MarksR m' ds D' → QQ (exOf e) a' w3) {v : Value} :
    rangePost FF 0 P l QQ a' (.returned v) w2 := by
  have h2 := hR.back hk
  have hm3 : m3 b = some (l, c) := hk.pin _ _ hb
  obtain ⟨g', c', lp, q1, q2, q3, q4, q5, q6, q7, q8, q9, q10, q11⟩ := h2.hst b _ hl
  rw [hm3] at q1; cases q1
  have hnb : lp.state ≠ .busy := by
    intro e
    rw [q5] at e
    rw [e] at hbusy
    cases hbusy
  have h3 := h2.putO (x1 := .loop { r2 with state := .exhausted }) hl (by simp) (by simp) hm3 q2 q4 (o := .loop { lp with state := .exhausted }) (by
    intro hkk hnew
    exact ⟨_, _, _, hm3, q2, hnew, q4, rfl, q6, q7, q8, q9, q10, fun i => (q11 i).mono (fun _ _ e => e) (fun _ _ e => e) hkk⟩)
  have h4 : Rel O w0 F0 M0 D' (fun b => nx2 ≤ b) F3 m3 sz tm ((b, .loop { r2 with state := .exhausted }) :: st2) a' (w2.putObj l (.loop { lp with state := .exhausted })) :=
    h3.act (fun i => by rw [ha]; exact h3.htm i) (by rw [ha]; exact h3.hsz) hD
  refine ⟨lp.pending, _, run_endLoop q3 hnb, ?_⟩
  have hfin := hq _ F3 m3 h4 hk.pin (hM.mono hk.pin)
  have hp : lp.pending = j := q6.trans hj
  generalize (w2.putObj l (.loop { lp with state := .exhausted })) = w3 at hfin ⊢
  rw [hp]
  rcases hje with ⟨rfl, rfl⟩ | ⟨i, rfl, rfl⟩ | ⟨rfl, rfl⟩
  · exact hfin
  · exact wpIn_exit hfin
  · exact wpIn_ret hfin

theorem xcode_sound (hH : HOK P H) (hX : CtxOK P (ctxX X)) (hmix : P.follows .mixedOrders = true) {FF : Fence} (hW : Wide FF) {fuel sz : Nat} {rd : Option Nat} : ∀ (c : Code) (s : XS) (e : AX) (s' : XS), xcode P H X fuel sz rd c s = some (e, s') →
    ∀ (O : Nat → Prop) (QQ : Exit → Act → World → Prop) (w0 : World) (F0 F : FZ) (M0 m : MP) (D : List Deferred) (a : Act) (w : World), Rel O w0 F0 M0 D (fun b => s.nx ≤ b) F m sz s.tm s.st a w → MarksR m s.ds D → RdOK m FF rd →
      (∀ a' w' F' m' D', Rel O w0 F0 M0 D' (fun b => s'.nx ≤ b) F' m' sz s'.tm s'.st a' w' → (∀ b y, m b = some y → m' b = some y) → MarksR m' s'.ds D' → QQ (exOf e) a' w') → c.wpIn FF 0 P QQ a w
  | .skip, s, e, s', hx, O, QQ, w0, F0, F, M0, m, D, a, w, h, hM, hrd, hq => by cases hx; exact wpIn_skip (hq a w F m D h (fun _ _ e => e) hM)
  | .exit i, s, e, s', hx, O, QQ, w0, F0, F, M0, m, D, a, w, h, hM, hrd, hq => by cases hx; exact wpIn_exit (hq a w F m D h (fun _ _ e => e) hM)
  | .ret, s, e, s', hx, O, QQ, w0, F0, F, M0, m, D, a, w, h, hM, hrd, hq => by cases hx; exact wpIn_ret (hq a w F m D h (fun _ _ e => e) hM)
  | .region id ops false, s, e, s', hx, O, QQ, w0, F0, F, M0, m, D, a, w, h, hM, hrd, hq => by
    simp only [xcode] at hx
    split at hx
    · next tm1 st1 nx1 h1 =>
      cases hx
      refine wpIn_region ?_
      have := xops_sound hH hW (Q := QQ) (w0 := w) (F0 := F) (M0 := m) (D := D) (fun F' m' a' w' hR => hq a' w' F' m' D (h.comp hR) hR.pin (hM.mono hR.pin)) ops.toList 0 s.nx F m s.tm s.st a w rfl h.base h1
      simpa using this
    · cases hx
  | .region id ops true, s, e, s', hx, O, QQ, w0, F0, F, M0, m, D, a, w, h, hM, hrd, hq => by
    simp only [xcode] at hx
    split at hx
    · cases hx
    · next hah =>
      split at hx
      · next tm1 st1 h1 =>
        rw [kN_eq] at hx
        cases hx
        exact evOpsD_sound hX hW hmix hah h.base (xopsD_ev (K := fun tm st => tm = tm1 ∧ st = st1) ⟨rfl, rfl⟩ _ _ _ _ _ h1) fun F' m' tm' st' a' w' hR hK => by
          obtain ⟨rfl, rfl⟩ := hK
          exact hq a' w' F' m' D (h.comp hR) hR.pin (hM.mono hR.pin)
      · cases hx
  | .seq x y, s, e, s', hx, O, QQ, w0, F0, F, M0, m, D, a, w, h, hM, hrd, hq => by
    simp only [xcode] at hx
    refine wpIn_seq ?_
    split at hx
    · next s1 h1 =>
      refine xcode_sound hH hX hmix hW x s _ s1 h1 O _ w0 F0 F M0 m D a w h hM hrd fun a1 w1 F1 m1 D1 r1 r2 r3 => ?_
      exact xcode_sound hH hX hmix hW y s1 e s' hx O QQ w0 F0 F1 M0 m1 D1 a1 w1 r1 r3 (hrd.mono r2) fun a2 w2 F2 m2 D2 q1 q2 q3 => hq a2 w2 F2 m2 D2 q1 (fun b y e => q2 b y (r2 b y e)) q3
    · next i s1 h1 => cases hx; exact xcode_sound hH hX hmix hW x s _ _ h1 O _ w0 F0 F M0 m D a w h hM hrd fun a1 w1 F1 m1 D1 r1 r2 r3 => hq a1 w1 F1 m1 D1 r1 r2 r3
    · next s1 h1 => cases hx; exact xcode_sound hH hX hmix hW x s _ _ h1 O _ w0 F0 F M0 m D a w h hM hrd fun a1 w1 F1 m1 D1 r1 r2 r3 => hq a1 w1 F1 m1 D1 r1 r2 r3
    · cases hx
  | .cond c x y, s, e, s', hx, O, QQ, w0, F0, F, M0, m, D, a, w, h, hM, hrd, hq => by
    simp only [xcode] at hx
    have he := h.ev c
    split at hx
    · next hb =>
      rw [hb] at he
      exact wpIn_cond (t := true) he (xcode_sound hH hX hmix hW x s e s' hx O QQ w0 F0 F M0 m D a w h hM hrd hq)
    · next hb =>
      rw [hb] at he
      exact wpIn_cond (t := false) he (xcode_sound hH hX hmix hW y s e s' hx O QQ w0 F0 F M0 m D a w h hM hrd hq)
    · cases hx
  | .block i c, s, e, s', hx, O, QQ, w0, F0, F, M0, m, D, a, w, h, hM, hrd, hq => by
    simp only [xcode] at hx
    refine wpIn_block ?_
    split at hx
    · next j s1 h1 =>
      split at hx
      · next hj =>
        cases hx
        have := Nat.eq_of_beq_eq_true hj
        subst this
        refine xcode_sound hH hX hmix hW c s _ _ h1 O _ w0 F0 F M0 m D a w h hM hrd fun a1 w1 F1 m1 D1 r1 r2 r3 => ?_
        show Exit.inBlock j QQ (.exit j) a1 w1
        simp only [Exit.inBlock, if_true]
        exact hq a1 w1 F1 m1 D1 r1 r2 r3
      · next hj =>
        cases hx
        have hne : ¬ j = i := by rintro rfl; simp at hj
        refine xcode_sound hH hX hmix hW c s _ _ h1 O _ w0 F0 F M0 m D a w h hM hrd fun a1 w1 F1 m1 D1 r1 r2 r3 => ?_
        show Exit.inBlock i QQ (.exit j) a1 w1
        simp only [Exit.inBlock, if_neg hne]
        exact hq a1 w1 F1 m1 D1 r1 r2 r3
    · next s1 h1 => cases hx; exact xcode_sound hH hX hmix hW c s _ _ h1 O _ w0 F0 F M0 m D a w h hM hrd fun a1 w1 F1 m1 D1 r1 r2 r3 => hq a1 w1 F1 m1 D1 r1 r2 r3
    · next s1 h1 => cases hx; exact xcode_sound hH hX hmix hW c s _ _ h1 O _ w0 F0 F M0 m D a w h hM hrd fun a1 w1 F1 m1 D1 r1 r2 r3 => hq a1 w1 F1 m1 D1 r1 r2 r3
    · cases hx
  | .loop c, s, e, s', hx, O, QQ, w0, F0, F, M0, m, D, a, w, h, hM, hrd, hq => by
    simp only [xcode] at hx
    refine xloop_sound (w0 := w) (F0 := F) (m0 := m) (fun a' w' F' m' D' r1 r2 => hq a' w' F' m' D' (h.comp r1) r1.pin r2) ?_ hx h.base hM
    intro s1 e1 s2 h1 QQ1 F1 m1 D1 a1 w1 hR1 hM1 hq1
    exact xcode_sound hH hX hmix hW c s1 e1 s2 h1 O QQ1 w F F1 m m1 D1 a1 w1 hR1 hM1 (hrd.mono hR1.pin) fun a' w' F' m' D' r1 r2 r3 => hq1 a' w' F' m' D' r1 r3
  | .rangeFunc f ps assign body, s, e, s', hx, O, QQ, w0, F0, F, M0, m, D, a, w, h, hM, hrd, hq => by
    simp only [xcode] at hx
    split at hx
    · cases hx
    · next s1 hs1 =>
      have hf := h.ev f
      split at hx
      · next g caps hg =>
        rw [hg] at hf
        obtain ⟨arr, hf', hl, hv⟩ := hf
        split at hx
        · next rr st2 nx2 hcall =>
          obtain ⟨henter, hok⟩ := hH _ _ _ _ _ _ _ hcall
          split at hx
          · next r2 hr2 =>
            split at hx
            · cases hx
            · next hbusy =>
              have hje : ∃ j, r2.pending = j ∧ ((e = .normal ∧ j = none) ∨ (∃ i, e = .exit i ∧ j = some (.exit i)) ∨ (e = .ret ∧ j = some .ret)) ∧ s' = ⟨s.tm, s1.ds, (s.nx, .loop { r2 with state := .exhausted }) :: st2, nx2, s.b0⟩ := by
                split at hx
                · next hp => cases hx; exact ⟨_, hp, .inl ⟨rfl, rfl⟩, rfl⟩
                · next i hp => cases hx; exact ⟨_, hp, .inr (.inl ⟨i, rfl, rfl⟩), rfl⟩
                · next hp => cases hx; exact ⟨_, hp, .inr (.inr ⟨rfl, rfl⟩), rfl⟩
                · cases hx
              obtain ⟨j, hj, hje, rfl⟩ := hje
              refine wpIn_rangeFunc fun fn _ => ?_
              have ha : a.defers = D := h.hde
              -- the call
              have hres : ∀ (l : Nat) (w1 : World), (resolve a.eval (rangeCall f l) 0).run P w1 = .ok { target := .fn (.func g) arr, args := #[.func (.yield l) #[] #[]] } w1 := by
                intro l w1
                have e : (rangeCall f l).args.map a.eval = #[.func (.yield l) #[] #[]] := by simp [rangeCall, Act.eval]
                show (Deferred.ofValue (a.eval f) ((rangeCall f l).args.map a.eval)).run P w1 = _
                rw [hf', e]
                rfl
              have hinv : ∀ (l : Nat) (w1 : World), (invoke (.fn (.func g) arr) #[.func (.yield l) #[] #[]]).run P w1 = .ok (.enter g (.func (.yield l) #[] #[] :: arr.toList).toArray) w1 := by
                intro l w1
                simp only [invoke]
                have e : (#[.func (.yield l) #[] #[]] ++ arr : Array Value) = (.func (.yield l) #[] #[] :: arr.toList).toArray := by
                  apply Array.ext'
                  simp
                rw [e, henter]
              have hargs : ∀ (F1 : FZ) (m1 : MP) (w1 : World) (l c : Nat), m1 s.nx = some (l, c) → (∀ b y, m b = some y → m1 b = some y) → (∀ g j, F g j → F1 g j) → Keeps F w.heap w1.heap → RVl m1 F1 w1.heap ([.yld s.nx] ++ caps) (.func (.yield l) #[] #[] :: arr.toList) := by
                intro F1 m1 w1 l c hb hmm hff hkk
                refine ⟨by simp [hl], fun i c' x hc hx => ?_⟩
                cases i with
                | zero => simp at hc hx; subst hc hx; exact ⟨l, c, hb, rfl⟩
                | succ i =>
                  simp at hc hx
                  exact RV.of_RP ((hv i c' x hc (by simpa using hx)).mono hmm hff hkk)
              cases rd with
              | none =>
                have hro : FF.round = none := hrd
                cases hs1
                obtain ⟨hA, hmA, hkA⟩ := h.base.newO (id := s.nx + 1) (cap := 0) (by show s.nx ≤ s.nx + 1; omega) (o := .deferred (some [])) (x := .mark true) (by simp) (by
                  intro m' hm' hid hk hh hno
                  exact ⟨_, _, hid, h.own_new, hh, hno⟩)
                obtain ⟨hB, hmB, hkB⟩ := hA.newO (id := s.nx) (cap := 0) (by constructor <;> first | omega | (show s.nx ≤ s.nx; omega)) (o := .loop { state := .ready, pending := none, fn, tmps := a.tmps, params := ps, assign, body, defers := w.heap.size })
                  (x := .loop ⟨s.tm, sz, ps, assign, body, .ready, none⟩) (by simp) (by
                  intro m' hm' hid hk hh hno
                  exact ⟨_, _, _, hid, hA.own_new, hh, hno, rfl, rfl, rfl, rfl, rfl, h.hsz, fun i => (hA.htm i).mono hm' (fun _ _ e => e) hk⟩)
                have hsize : (w.alloc (.deferred (some []))).heap.size = w.heap.size + 1 := by simp
                refine ⟨w.heap.size + 1, [{ target := .collected w.heap.size, args := #[] }], _, _, _, g, _, _, by rw [hro]; exact run_enterLoop_outer fn a.tmps ps assign body, hres _ _, fun f' _ => hW.fn f', hinv _ _, fun e => (by rw [hW.dep] at e; cases e), callsIn_of_calls hW ?_⟩
                refine (hok O _ _ _ _ (hB.weakU (U' := fun b => s.nx + 2 ≤ b) fun b hb => ⟨⟨show s.nx ≤ b by omega, by omega⟩, by omega⟩).toH (hargs _ _ _ (w.heap.size + 1) 0 (by simp [hsize]) (fun b y e => hmB b y (hmA b y e)) (fun _ _ e => e) (fun g' j' e => (hkB g' j' e).trans (hkA g' j' e)))).mono ?_
                rintro en w2 ⟨v, F3, m3, rfl, hk, _⟩
                refine range_end (a' := { a with defers := [{ target := .collected w.heap.size, args := #[] }] ++ a.defers }) (D' := { target := .collected w.heap.size, args := #[] } :: D) (ds := (s.nx + 1) :: s.ds) (h.comp hB) hk rfl (by rw [← ha]; rfl) (b := s.nx) (c := 0) (by simp [hsize]) hr2 hbusy ?_ hj hje fun w3 F' m' r1 r2' r3' => ?_
                · exact ⟨⟨w.heap.size, 0, by simp, rfl⟩, hM.mono fun b y e => hmB b y (hmA b y e)⟩
                · exact hq _ w3 F' m' _ r1 (fun b y e => r2' b y (hmB b y (hmA b y e))) r3'
              | some b =>
                obtain ⟨l0, c0, hro, hb0⟩ := hrd
                simp only [xenter] at hs1
                split at hs1
                · next r0 hr0 =>
                  cases hs1
                  obtain ⟨g0, c0', lp0, z1, z2, z3, _⟩ := h.hst b _ hr0
                  rw [hb0] at z1; cases z1
                  obtain ⟨hB, hmB, hkB⟩ := h.base.newO (id := s.nx) (cap := 0) (by show s.nx ≤ s.nx; omega) (o := .loop { state := .ready, pending := none, fn, tmps := a.tmps, params := ps, assign, body, defers := lp0.defers })
                    (x := .loop ⟨s.tm, sz, ps, assign, body, .ready, none⟩) (by simp) (by
                    intro m' hm' hid hk hh hno
                    exact ⟨_, _, _, hid, h.own_new, hh, hno, rfl, rfl, rfl, rfl, rfl, h.hsz, fun i => (h.htm i).mono hm' (fun _ _ e => e) hk⟩)
                  refine ⟨w.heap.size, [], _, _, _, g, _, _, by rw [hro]; exact run_enterLoop_inner z3 fn a.tmps ps assign body, hres _ _, fun f' _ => hW.fn f', hinv _ _, fun e => (by rw [hW.dep] at e; cases e), callsIn_of_calls hW ?_⟩
                  refine (hok O _ _ _ _ (hB.weakU (U' := fun b => s.nx + 1 ≤ b) fun b hb => ⟨show s.nx ≤ b by omega, by omega⟩).toH (hargs _ _ _ w.heap.size 0 (by simp) hmB (fun _ _ e => e) hkB)).mono ?_
                  rintro en w2 ⟨v, F3, m3, rfl, hk, _⟩
                  refine range_end (a' := { a with defers := [] ++ a.defers }) (D' := D) (ds := s.ds) (h.comp hB) hk rfl (by rw [← ha]; rfl) (b := s.nx) (c := 0) (by simp) hr2 hbusy (hM.mono hmB) hj hje fun w3 F' m' r1 r2' r3' => ?_
                  exact hq _ w3 F' m' _ r1 (fun b y e => r2' b y (hmB b y e)) r3'
                · cases hs1
          · cases hx
        · cases hx
      · cases hx
  | .scope _, _, _, _, hx, _, _, _, _, _, _, _, _, _, _, _, _, _, _ => by cases hx
  | .label _, _, _, _, hx, _, _, _, _, _, _, _, _, _, _, _, _, _, _ => by cases hx
  | .goto _, _, _, _, hx, _, _, _, _, _, _, _, _, _, _, _, _, _, _ => by cases hx
  | .refuse _, _, _, _, hx, _, _, _, _, _, _, _, _, _, _, _, _, _, _ => by cases hx
end
end Go.Ev
/- The evaluator's runs are the model's: functions, rounds. -/
set_option linter.unusedVariables false
set_option linter.unusedSimpArgs false
namespace Go.Ev
open Go.RowKit

section
variable {P : Program} {H : XH} {X : FuncId → Option (List V → Option V)}

/-- The marks are come to. -/
theorem leaves_ok {fn : Func} {tmps : Array Value} {R : Ending → World → Prop} {O : Nat → Prop} {w0 : World} {F0 : FZ} {M0 : MP} {D0 : List Deferred} {U : Nat → Prop} {F : FZ} {m : MP} {sz : Nat} {tm : TM} {a : Act} :
    ∀ (ds : List Nat) (D : List Deferred) (st st1 : ST) (w : World), xmarks ds st = some st1 → Rel O w0 F0 M0 D0 U F m sz tm st a w → MarksR m ds D →
      (∀ w1, Rel O w0 F0 M0 D0 U F m sz tm st1 a w1 → ∃ v, (results fn tmps).run P w1 = .ok v w1 ∧ R (.returned v) w1) → LeavesInM Fence.wide 0 P fn tmps R D .returning w
  | [], [], st, st1, w, hx, h, _, hq => by cases hx; exact hq w h
  | [], _ :: _, _, _, _, _, _, hM, _ => hM.elim
  | _ :: _, [], _, _, _, _, _, hM, _ => hM.elim
  | b :: ds, d :: D, st, st1, w, hx, h, ⟨⟨g, c, hb, hd⟩, hM⟩, hq => by
    simp only [xmarks] at hx
    split at hx
    · next hl =>
      obtain ⟨g', c', q1, q2, q3, q4⟩ := h.hst b _ hl
      rw [hb] at q1; cases q1
      have h2 := h.putO (x1 := .mark false) hl (by simp) (by simp) hb q2 q4 (o := .deferred none) (fun _ hnew => ⟨_, _, hb, q2, hnew, q4⟩)
      refine ⟨by simp, .inl ⟨g, _, by rw [hd], run_takeDeferred q3, leaves_ok ds D _ st1 _ hx h2 hM hq⟩⟩
    · cases hx

theorem xres_ok {fn : Func} {O : Nat → Prop} {w0 : World} {F0 : FZ} {M0 : MP} {D : List Deferred} {U : Nat → Prop} {F : FZ} {m : MP} {sz : Nat} {tm : TM} {st st' : ST} {a : Act} {w : World} {r : V}
    (h : Rel O w0 F0 M0 D U F m sz tm st a w) (hx : xres P fn tm st = some (r, st')) : ∃ v F', (results fn a.tmps).run P w = .ok v w ∧ Rel O w0 F0 M0 D U F' m sz tm st' a w ∧ RV m F' w.heap r v := by
  unfold xres at hx
  split at hx
  · next t ht =>
    cases hx
    refine ⟨_, F, results_eq fn a.tmps w [a.tmps.getD t undef] (by rw [ht]; simp [List.mapM_cons, resOne]), h, ?_⟩
    exact h.htm t
  · next p t ht =>
    have hg : (opR P (fun _ => none) 0 (ev tm) (.load t (.tmp p))).go st (fun v s => v = r ∧ s = st') := RM.x_go _ _ _ _ hx ⟨rfl, rfl⟩
    obtain ⟨F0', st0, c0, v0, h0, e0, hrun, hv0, hc, hs⟩ := load_sound (P := P) (C := fun _ => none) h hg
    subst hc hs
    have hld : (resOne a.tmps (.cell p t)).run P w = .ok v0 w := by
      have e : a.eval (.tmp p) = a.tmps.getD p undef := rfl
      rw [e] at hrun
      simp only [resOne]
      cases hp : a.tmps.getD p undef with
      | pointer q =>
        rw [hp] at hrun
        cases q with
        | some q => simpa [asAddr, Instr.loadAt, Instr.sureAddr] using hrun
        | none => simp [Instr.loadAt, Instr.sureAddr, Result.andThen] at hrun
      | _ => rw [hp] at hrun; simp [Instr.loadAt, Instr.sureAddr, Result.andThen] at hrun
    exact ⟨_, F0', results_eq fn a.tmps w [v0] (by rw [ht]; simp [List.mapM_cons, hld]), h0, hv0⟩
  · have hg : (resR P tm fn.results.toList []).go st (fun v s => v = r ∧ s = st') := RM.x_go _ _ _ _ hx ⟨rfl, rfl⟩
    obtain ⟨F1, st1, vs1, c1, r1, r2, r3, r4, r5⟩ := resR_sound fn.results.toList [] [] F st h hg rfl (by simp)
    subst r4 r5
    exact ⟨_, F1, results_eq fn a.tmps w vs1 r2, r1, RV.of_RC r3⟩

theorem xfn_ok (hH : HOK P H) (hX : CtxOK P (ctxX X)) (hmix : P.follows .mixedOrders = true) {g : FuncId} {fn : Func} {c : Code} (hf : P.funcs[g]? = some fn) (hb : fn.body = some c) {fuel : Nat} {args : List V} {st : ST} {top : Nat} {r : V} {st' : ST} {top' : Nat}
    (hx : xfn P H X fuel fn c args st top = some (r, st', top')) : FnOK P g args st top r st' top' := by
  intro O F m w vs h hv
  unfold xfn at hx
  split at hx
  · cases hx
  · next hle =>
    have hlen : args.length ≤ fn.ntmps := Nat.le_of_ble_eq_true hle
    split at hx
    · cases hx
    · cases hx
    · next e s hne hc =>
      split at hx
      · cases hx
      · next st1 hm =>
        split at hx
        · cases hx
        · next r1 st2 hr =>
          rw [kV0_eq] at hx
          cases hx
          refine callsIn_wide.1 (callsIn_of_wp_marks (n := 0) hf hb trivial ?_)
          have hR0 : Rel O w F m [] (fun b => top ≤ b) F m fn.ntmps (startT args) st { tmps := vs.toArray ++ Array.replicate (fn.ntmps - vs.toArray.size) undef, defers := [] } w := by
            refine h.act (fun i => ?_) (by have := hv.1; simp; omega) rfl
            have e : look (startT args) i = args[i]? := by
              unfold startT
              rw [List.range_eq_range', look_start args 0 i]
              simp
            rw [e]
            cases hi : args[i]? with
            | none => exact trivial
            | some c =>
              have hl := hv.1
              have hil : i < args.length := (List.getElem?_eq_some_iff.1 hi).1
              have hx : vs[i]? = some (vs[i]'(by omega)) := List.getElem?_eq_getElem (by omega)
              have := hv.2 i c _ hi hx
              simp only [Option.getD_some]
              have e2 : (vs.toArray ++ Array.replicate (fn.ntmps - vs.toArray.size) undef).getD i undef = vs[i]'(by omega) := by
                rw [Array.getD_eq_getD_getElem?, Array.getElem?_append_left (by simp; omega)]
                simp [hx]
              rw [e2]
              exact this
          have hR := hR0.sent
          refine xcode_sound hH hX hmix wide_wide c ⟨startT args, [], (top, .dead) :: st, top + 1, top⟩ e s hc O _ w F F m m [] _ w hR trivial rfl fun a' w' F' m' D' r1' r2' r3' => ?_
          have fin : LeavesInM Fence.wide 0 P fn a'.tmps (After O w F m (sweep top r st2) s.nx r) a'.defers .returning w' := by
            rw [r1'.hde]
            refine leaves_ok s.ds D' s.st st1 w' hm r1' r3' fun w1 hR1 => ?_
            obtain ⟨v, F2, hrun, hR2, hv2⟩ := xres_ok hR1 hr
            exact ⟨v, hrun, v, F2, m', rfl, (hR2.sweep _ _).heap, hv2⟩
          cases e with
          | normal => exact fin
          | ret => exact fin
          | exit i => exact absurd rfl (hne i)

theorem foldl_put {m : MP} {F : FZ} {Hp : Array Obj} {sz : Nat} : ∀ (l : List (Tmp × V)) (vs : List (Tmp × Value)) (tm : TM) (tmps : Array Value), l.length = vs.length → (∀ (i : Nat) (p : Tmp × V) (q : Tmp × Value), l[i]? = some p → vs[i]? = some q → p.1 = q.1 ∧ p.1 < sz ∧ RV m F Hp p.2 q.2) →
    tmps.size = sz → (∀ i, RV m F Hp ((look tm i).getD .top) (tmps.getD i undef)) →
    (vs.foldl (fun t p => t.setIfInBounds p.1 p.2) tmps).size = sz ∧ ∀ i, RV m F Hp ((look (l.foldl (fun t p => p :: t) tm) i).getD .top) ((vs.foldl (fun t p => t.setIfInBounds p.1 p.2) tmps).getD i undef)
  | [], [], tm, tmps, _, _, hs, ht => ⟨hs, ht⟩
  | [], _ :: _, _, _, hl, _, _, _ => by simp at hl
  | _ :: _, [], _, _, hl, _, _, _ => by simp at hl
  | p :: l, q :: vs, tm, tmps, hl, hp, hs, ht => by
    obtain ⟨h1, h2, h3⟩ := hp 0 p q rfl rfl
    obtain ⟨p1, p2⟩ := p
    obtain ⟨q1, q2⟩ := q
    simp only at h1 h2 h3
    subst h1
    refine foldl_put l vs ((p1, p2) :: tm) (tmps.setIfInBounds p1 q2) (by simpa using hl) (fun i p q e1 e2 => hp (i + 1) p q (by simpa using e1) (by simpa using e2)) (by simpa using hs) fun i => ?_
    rw [look_cons]
    by_cases e : p1 = i
    · subst e
      have : (tmps.setIfInBounds p1 q2).getD p1 undef = q2 := by simp [Array.getD_eq_getD_getElem?, hs, h2]
      rw [this, if_pos rfl]
      exact h3
    · rw [if_neg e]
      have := ht i
      simpa [Array.getD_eq_getD_getElem?, Array.getElem?_setIfInBounds, e] using this

theorem wide_round {FF : Fence} (hW : Wide FF) (l : Nat) : Wide (FF.inRound l) := ⟨hW.fn, hW.dep, hW.al⟩

theorem isReady_eq {s : LoopState} (h : isReady s = true) : s = .ready := by cases s <;> first | rfl | cases h

theorem xround_ok (hH : HOK P H) (hX : CtxOK P (ctxX X)) (hmix : P.follows .mixedOrders = true) {fuel b : Nat} {args : List V} {st : ST} {top : Nat} {r : V} {st' : ST} {top' : Nat}
    (hx : xround P H X fuel b args st top = some (r, st', top')) : YldOK P b args st top r st' top' := by
  intro O F m w vs h hv g c hm
  unfold xround at hx
  split at hx
  · next r0 hl0 =>
    split at hx
    · next hrd =>
      split at hx
      · cases hx
      · next hlen =>
        rw [Bool.and_eq_true] at hlen
        have hn : args.length = r0.ps.size := Nat.eq_of_beq_eq_true hlen.1
        obtain ⟨g', c', lp, q1, q2, q3, q4, q5, q6, q7, q8, q9, q10, q11⟩ := h.hst b _ hl0
        rw [hm] at q1; cases q1
        have hvs : vs.length = lp.params.size := by rw [q7, ← hn, hv.1]
        have hy := run_yield (P := P) (args := vs.toArray) q3 (by simpa using hvs)
        refine ⟨_, _, _, _, hy, fun FF hW => ?_⟩
        split at hx
        · next s1 hassign =>
          split at hx
          · next r1 hl1 =>
            split at hx
            · next hrd1 =>
              split at hx
              · cases hx
              · next e s2 hbody =>
                split at hx
                · next r2 hl2 =>
                  have hfold : (lp.params.zip vs.toArray).foldl (fun tmps (t, a) => tmps.setIfInBounds t a) lp.tmps = (r0.ps.toList.zip vs).foldl (fun t p => t.setIfInBounds p.1 p.2) lp.tmps := by
                    rw [q7, ← Array.foldl_toList, Array.toList_zip]
                  have hput := foldl_put (m := m) (F := F) (Hp := w.heap) (sz := r0.sz) (r0.ps.toList.zip args) (r0.ps.toList.zip vs) r0.tm lp.tmps (by simp [hv.1]) (by
                    intro i p q e1 e2
                    rw [List.getElem?_zip_eq_some] at e1 e2
                    have : p.1 = q.1 := by have := e1.1.symm.trans e2.1; simpa using this
                    refine ⟨this, ?_, hv.2 i _ _ e1.2 e2.2⟩
                    have := List.all_eq_true.1 hlen.2 p.1 (List.mem_of_getElem? e1.1)
                    exact Nat.le_of_ble_eq_true this) q10 q11
                  refine roundIn_of_wpIn (hW.fn _) ?_
                  rw [hfold]
                  have hR0 : Rel O w F m [] (fun b => top ≤ b) F m r0.sz ((r0.ps.toList.zip args).foldl (fun t p => p :: t) r0.tm) st { tmps := (r0.ps.toList.zip vs).foldl (fun t p => t.setIfInBounds p.1 p.2) lp.tmps, defers := [] } w :=
                    h.act hput.2 hput.1 rfl
                  have hR := hR0.sent
                  have hrdok : RdOK m (FF.inRound g) (some b) := ⟨g, c, rfl, hm⟩
                  rw [q8]
                  refine xcode_sound hH hX hmix (wide_round hW g) r0.assign _ _ s1 hassign O _ w F F m m [] _ w hR trivial hrdok fun a1 w1 F1 m1 D1 z1 z2 z3 => ?_
                  -- the body
                  have hm1 := z2 _ _ hm
                  obtain ⟨g1, c1, lp1, y1, y2, y3, y4, y5, y6, y7, y8, y9, y10, y11⟩ := z1.hst b _ hl1
                  rw [hm1] at y1; cases y1
                  have hB := z1.putO (x1 := .loop { r1 with state := .busy }) hl1 (by simp) (by simp) hm1 y2 y4 (o := .loop { lp1 with state := .busy }) (fun hkk hnew =>
                    ⟨_, _, _, hm1, y2, hnew, y4, rfl, y6, y7, y8, y9, y10, fun i => (y11 i).mono (fun _ _ e => e) (fun _ _ e => e) hkk⟩)
                  refine ⟨_, run_beginRound y3 (by rw [y5]; exact isReady_eq hrd1), ?_⟩
                  rw [q9]
                  refine xcode_sound hH hX hmix (wide_round hW g) r0.body ⟨s1.tm, s1.ds, _, s1.nx, s1.b0⟩ e s2 hbody O _ w F F1 m m1 D1 _ _ hB z3 (hrdok.mono z2) fun a2 w2 F2 m2 D2 x1 x2 x3 => ?_
                  have hm2 := x2 _ _ hm1
                  obtain ⟨g2, c2, lp2, u1, u2, u3, u4, u5, u6, u7, u8, u9, u10, u11⟩ := x1.hst b _ hl2
                  rw [hm2] at u1; cases u1
                  have fin : ∀ (j : Option Code) (ls : LoopState), ls = (if j.isNone then .ready else .done) → Rel O w F m D2 (fun b => s2.nx ≤ b) F2 m2 r0.sz s2.tm ((b, .loop { r2 with state := ls, pending := j }) :: s2.st) a2 (w2.putObj g (.loop { lp2 with state := (if j.isNone then .ready else .done), pending := j })) := by
                    intro j ls hls
                    subst hls
                    exact x1.putO hl2 (by simp) (by simp) hm2 u2 u4 (fun hkk hnew =>
                      ⟨_, _, _, hm2, u2, hnew, u4, rfl, rfl, u7, u8, u9, u10, fun i => (u11 i).mono (fun _ _ e => e) (fun _ _ e => e) hkk⟩)
                  cases e with
                  | normal =>
                    cases hx
                    exact ⟨_, _, run_endRound none u3, _, F2, m2, rfl, ((fin none .ready rfl).sweep _ _).heap, rfl⟩
                  | exit i =>
                    cases hx
                    exact ⟨_, _, run_endRound (some (.exit i)) u3, _, F2, m2, rfl, ((fin (some (.exit i)) .done rfl).sweep _ _).heap, rfl⟩
                  | ret =>
                    cases hx
                    exact ⟨_, _, run_endRound (some .ret) u3, _, F2, m2, rfl, ((fin (some .ret) .done rfl).sweep _ _).heap, rfl⟩
                · cases hx
            · cases hx
          · cases hx
        · cases hx
    · cases hx
  · cases hx
end

section
variable {P : Program} {G : XG}

theorem soundV_x {H : XH} (hH : HOK P H) (g : FuncId) : SoundV P g (conX (xpure P H g)) := by
  rintro ⟨args, r⟩ F w vs hF hv hok
  have hok : xpure P H g args = some r := hok
  unfold xpure at hok
  split at hok
  · next r1 st nx h1 =>
    obtain ⟨_, hfn⟩ := hH _ _ _ _ _ _ _ h1
    have hR : RelH (fun k => w.heap.size ≤ k) w F (fun _ => none) 0 F (fun _ => none) [] w :=
      { htm := fun i => trivial, hsz := rfl, hde := rfl, hst := fun b x hx => by simp at hx, inj := fun b b' g c c' _ _ hm => (by cases hm), fresh := fun b _ => ⟨rfl, rfl⟩, pin := fun b y e => (by cases e), keep := Keeps.refl _ _, f0 := fun _ _ e => e, f1 := fun _ _ e => .inl e, f2 := hF, mlt := fun b g c hm => (by cases hm), below := Own.refl _ _, hb := fun _ e => e }
    have hv' : RVl (fun _ => none) F w.heap (args ++ []) vs := by
      rw [List.append_nil]
      have := RCs_iff.1 hv
      exact ⟨this.1, fun i c x hc hx => RV.of_RC (this.2 i c x hc hx).1⟩
    refine (hfn _ F _ w vs hR hv').mono ?_
    rintro e w' ⟨v, F', m', rfl, hR', hr⟩
    cases hz : (fz 4 r1 .ret).x st with
    | none => rw [hz] at hok; cases hok
    | some z =>
      obtain ⟨c, st2⟩ := z
      rw [hz] at hok
      cases hok
      obtain ⟨F1, st1, c1, k1, k2, k3, k4, _⟩ := fz_sound 4 r1 v .ret st F' (fun c' s => c' = c) hR' hr (RM.x_go _ _ _ _ hz rfl)
      have k4 : c1 = c := k4
      subst k4
      exact ⟨v, F1, rfl, k1.below.below, k1.f0, k1.f1, k1.f2, k3⟩
  · cases hok

/-- The functions that are followed are the program's. -/
def GOK (P : Program) (G : XG) : Prop := ∀ g fn, G g = some fn → P.funcs[g]? = some fn ∧ EntersOK P g

theorem ctx_x (hG : GOK P G) {H : XH} (hH : HOK P H) : CtxOK P (ctxX (xpures P G H)) := by
  intro g c hc
  unfold ctxX xpures at hc
  cases hg : G g with
  | none => simp [hg] at hc
  | some fn =>
    simp [hg] at hc
    subst hc
    exact ⟨soundV_x hH g, (hG g fn hg).2⟩

theorem xcall_ok (hG : GOK P G) (hmix : P.follows .mixedOrders = true) (fuel : Nat) : ∀ n, HOK P (xcall P G fuel n)
  | 0 => fun c avs st top r st' top' h => by cases h
  | n + 1 => by
    intro c avs st top r st' top' h
    have ih := xcall_ok hG hmix fuel n
    simp only [xcall] at h
    split at h
    · next g caps =>
      split at h
      · next fn hg =>
        split at h
        · next code hb =>
          exact ⟨(hG g fn hg).2, xfn_ok ih (ctx_x hG ih) hmix (hG g fn hg).1 hb h⟩
        · cases h
      · cases h
    · next b => exact xround_ok ih (ctx_x hG ih) hmix h
    · cases h

/-- WHAT A RUN OF THE EVALUATOR GIVES IS WHAT THE FUNCTION RETURNS. -/
theorem has_x (hG : GOK P G) (hmix : P.follows .mixedOrders = true) {fuel n : Nat} {f : FuncId} {args : List V} {r : V} (h : xpure P (xcall P G fuel n) f args = some r) (hf : (G f).isSome = true) :
    Has P f { α := Unit, enc := fun _ => args, ok := fun _ => True, res := fun _ => r } := by
  have hH := xcall_ok hG hmix fuel n
  obtain ⟨fn, hfn⟩ := Option.isSome_iff_exists.1 hf
  refine ⟨?_, (hG f fn hfn).2⟩
  show SoundV P f _
  intro x F w vs hF hv _
  exact soundV_x hH f (args, r) F w vs hF hv h

/-- The functions by a list. -/
def xg : List (FuncId × Func) → XG
  | [], _ => none
  | (g, fn) :: l, f => match Nat.beq g f with
    | true => some fn
    | false => xg l f
theorem gok_nil : GOK P (xg []) := fun _ _ h => by cases h
theorem gok_cons {g : FuncId} {fn : Func} {l : List (FuncId × Func)} (hf : P.funcs[g]? = some fn) (hn : (fn.name == "runtime.NumGoroutine") = false) (hb : fn.body.isNone = false) (k : GOK P (xg l)) : GOK P (xg ((g, fn) :: l)) := by
  intro f fn' h
  simp only [xg] at h
  split at h
  · next e => have := Nat.eq_of_beq_eq_true e; subst this; cases h; exact ⟨hf, enters_ok hf hn hb⟩
  · exact k f fn' h
end
end Go.Ev
/- The law's known(): true, by a run of the evaluator in the kernel. -/
set_option linter.unusedVariables false
namespace Go.Ev
open Go.Proofs
set_option maxRecDepth 100000
theorem mixK : Try.prog.follows .mixedOrders = true := by kernel_rfl
noncomputable def knownL : List (FuncId × Func) := [(16, Try.f16), (17, Try.f17), (18, Try.f18), (19, Try.f19), (20, Try.f20), (21, Try.f21), (22, Try.f22), (23, Try.f23), (24, Try.f24), (25, Try.f25), (26, Try.f26), (27, Try.f27), (28, Try.f28), (29, Try.f29), (30, Try.f30), (31, Try.f31), (32, Try.f32), (33, Try.f33), (34, Try.f34), (35, Try.f35), (36, Try.f36), (37, Try.f37), (38, Try.f38), (39, Try.f39), (40, Try.f40), (41, Try.f41), (42, Try.f42), (43, Try.f43), (44, Try.f44), (45, Try.f45), (46, Try.f46), (47, Try.f47), (48, Try.f48), (49, Try.f49), (50, Try.f50), (51, Try.f51), (52, Try.f52), (53, Try.f53), (54, Try.f54), (55, Try.f55), (56, Try.f56), (57, Try.f57), (58, Try.f58), (59, Try.f59), (60, Try.f60), (61, Try.f61), (62, Try.f62), (63, Try.f63), (64, Try.f64), (65, Try.f65), (66, Try.f66), (67, Try.f67), (68, Try.f68), (69, Try.f69), (70, Try.f70), (71, Try.f71), (72, Try.f72), (73, Try.f73), (74, Try.f74), (75, Try.f75), (76, Try.f76), (77, Try.f77), (78, Try.f78), (79, Try.f79), (80, Try.f80), (81, Try.f81), (82, Try.f82), (83, Try.f83), (84, Try.f84), (85, Try.f85), (86, Try.f86), (87, Try.f87), (88, Try.f88), (89, Try.f89), (90, Try.f90), (91, Try.f91), (92, Try.f92), (93, Try.f93), (94, Try.f94), (95, Try.f95), (96, Try.f96), (97, Try.f97), (98, Try.f98), (99, Try.f99), (100, Try.f100), (101, Try.f101), (102, Try.f102), (103, Try.f103), (104, Try.f104), (105, Try.f105), (106, Try.f106), (107, Try.f107), (108, Try.f108), (109, Try.f109), (110, Try.f110), (111, Try.f111), (112, Try.f112)]
theorem gokK : GOK Try.prog (xg knownL) :=
  gok_cons Try.func16 rfl rfl (
  gok_cons Try.func17 rfl rfl (
  gok_cons Try.func18 rfl rfl (
  gok_cons Try.func19 rfl rfl (
  gok_cons Try.func20 rfl rfl (
  gok_cons Try.func21 rfl rfl (
  gok_cons Try.func22 rfl rfl (
  gok_cons Try.func23 rfl rfl (
  gok_cons Try.func24 rfl rfl (
  gok_cons Try.func25 rfl rfl (
  gok_cons Try.func26 rfl rfl (
  gok_cons Try.func27 rfl rfl (
  gok_cons Try.func28 rfl rfl (
  gok_cons Try.func29 rfl rfl (
  gok_cons Try.func30 rfl rfl (
  gok_cons Try.func31 rfl rfl (
  gok_cons Try.func32 rfl rfl (
  gok_cons Try.func33 rfl rfl (
  gok_cons Try.func34 rfl rfl (
  gok_cons Try.func35 rfl rfl (
  gok_cons Try.func36 rfl rfl (
  gok_cons Try.func37 rfl rfl (
  gok_cons Try.func38 rfl rfl (
  gok_cons Try.func39 rfl rfl (
  gok_cons Try.func40 rfl rfl (
  gok_cons Try.func41 rfl rfl (
  gok_cons Try.func42 rfl rfl (
  gok_cons Try.func43 rfl rfl (
  gok_cons Try.func44 rfl rfl (
  gok_cons Try.func45 rfl rfl (
  gok_cons Try.func46 rfl rfl (
  gok_cons Try.func47 rfl rfl (
  gok_cons Try.func48 rfl rfl (
  gok_cons Try.func49 rfl rfl (
  gok_cons Try.func50 rfl rfl (
  gok_cons Try.func51 rfl rfl (
  gok_cons Try.func52 rfl rfl (
  gok_cons Try.func53 rfl rfl (
  gok_cons Try.func54 rfl rfl (
  gok_cons Try.func55 rfl rfl (
  gok_cons Try.func56 rfl rfl (
  gok_cons Try.func57 rfl rfl (
  gok_cons Try.func58 rfl rfl (
  gok_cons Try.func59 rfl rfl (
  gok_cons Try.func60 rfl rfl (
  gok_cons Try.func61 rfl rfl (
  gok_cons Try.func62 rfl rfl (
  gok_cons Try.func63 rfl rfl (
  gok_cons Try.func64 rfl rfl (
  gok_cons Try.func65 rfl rfl (
  gok_cons Try.func66 rfl rfl (
  gok_cons Try.func67 rfl rfl (
  gok_cons Try.func68 rfl rfl (
  gok_cons Try.func69 rfl rfl (
  gok_cons Try.func70 rfl rfl (
  gok_cons Try.func71 rfl rfl (
  gok_cons Try.func72 rfl rfl (
  gok_cons Try.func73 rfl rfl (
  gok_cons Try.func74 rfl rfl (
  gok_cons Try.func75 rfl rfl (
  gok_cons Try.func76 rfl rfl (
  gok_cons Try.func77 rfl rfl (
  gok_cons Try.func78 rfl rfl (
  gok_cons Try.func79 rfl rfl (
  gok_cons Try.func80 rfl rfl (
  gok_cons Try.func81 rfl rfl (
  gok_cons Try.func82 rfl rfl (
  gok_cons Try.func83 rfl rfl (
  gok_cons Try.func84 rfl rfl (
  gok_cons Try.func85 rfl rfl (
  gok_cons Try.func86 rfl rfl (
  gok_cons Try.func87 rfl rfl (
  gok_cons Try.func88 rfl rfl (
  gok_cons Try.func89 rfl rfl (
  gok_cons Try.func90 rfl rfl (
  gok_cons Try.func91 rfl rfl (
  gok_cons Try.func92 rfl rfl (
  gok_cons Try.func93 rfl rfl (
  gok_cons Try.func94 rfl rfl (
  gok_cons Try.func95 rfl rfl (
  gok_cons Try.func96 rfl rfl (
  gok_cons Try.func97 rfl rfl (
  gok_cons Try.func98 rfl rfl (
  gok_cons Try.func99 rfl rfl (
  gok_cons Try.func100 rfl rfl (
  gok_cons Try.func101 rfl rfl (
  gok_cons Try.func102 rfl rfl (
  gok_cons Try.func103 rfl rfl (
  gok_cons Try.func104 rfl rfl (
  gok_cons Try.func105 rfl rfl (
  gok_cons Try.func106 rfl rfl (
  gok_cons Try.func107 rfl rfl (
  gok_cons Try.func108 rfl rfl (
  gok_cons Try.func109 rfl rfl (
  gok_cons Try.func110 rfl rfl (
  gok_cons Try.func111 rfl rfl (
  gok_cons Try.func112 rfl rfl (
  gok_nil)))))))))))))))))))))))))))))))))))))))))))))))))))))))))))))))))))))))))))))))))))))))))))))))))
theorem knownX : xpure Try.prog (xcall Try.prog (xg knownL) 200 30) 17 [] = some (.v (.bool true)) := by kernel_rfl
def cKnown : Con := { α := Unit, enc := fun _ => [], ok := fun _ => True, res := fun _ => .v (.bool true) }
theorem hKnown : Has Try.prog 17 cKnown := has_x gokK mixK knownX rfl
end Go.Ev
set_option linter.unusedVariables false
set_option linter.unusedSimpArgs false
namespace Go.Ev
open Go.Proofs
set_option maxHeartbeats 1000000
set_option maxRecDepth 100000

def cPick : Con := { α := Bd × Int, enc := fun (b, n) => [.agg (eBd b), .v (.int .u8 n)], ok := fun (b, n) => 0 ≤ n ∧ n ≤ 255, res := fun (b, n) => (V.v (.int .i64 (pickF b n))) }
theorem hPick : Has Try.prog 53 cPick := by
  refine has_of ctx_nil mix Try.func53 rfl (by kernel_rfl) ?_
  rintro ⟨b, n⟩ hn
  have hn : 0 ≤ n ∧ n ≤ 255 := hn
  refine ⟨of_decide_eq_true rfl, ?_⟩
  (repeat (first | ((with_reducible refine go_ret ?_)) | ((with_reducible refine go_put ?_); (conv => arg 1; whnf)) | ((with_reducible apply go_get); exact rfl; (conv => arg 1; whnf)) | ((with_reducible refine go_req ?_ ?_); exact (of_decide_eq_true rfl); (conv => arg 1; whnf)) | ((with_reducible refine go_req ?_ ?_); exact trivial; (conv => arg 1; whnf)) | ((with_reducible refine go_req ?_ ?_); exact rfl; (conv => arg 1; whnf)) | ((with_reducible refine go_reqP ?_ ?_); exact rfl; (conv => arg 1; whnf)) | ((with_reducible refine ops_nil ?_)) | ((with_reducible refine ops_cons ?_ ?_ ?_); exact rfl; exact rfl; (conv => arg 1; whnf)) | ((with_reducible apply ops_take); exact rfl; exact rfl; exact rfl; exact rfl; (conv => arg 1; whnf)) | ((with_reducible apply ops_skip); exact rfl; exact rfl; exact rfl; exact rfl) | ((with_reducible refine goT_ret ?_)) | ((with_reducible refine goT_put ?_); (conv => arg 1; whnf)) | ((with_reducible apply goT_get); exact rfl; (conv => arg 1; whnf)) | ((with_reducible refine goT_req ?_ ?_); exact (of_decide_eq_true rfl); (conv => arg 1; whnf)) | ((with_reducible refine goT_req ?_ ?_); exact trivial; (conv => arg 1; whnf)) | ((with_reducible refine goT_req ?_ ?_); exact rfl; (conv => arg 1; whnf)) | ((with_reducible refine goT_reqP ?_ ?_); exact rfl; (conv => arg 1; whnf)) | ((with_reducible refine d_step ?_ ?_); kernel_rfl) | ((with_reducible refine d_nil ?_)) | ((with_reducible refine d_cons ?_ ?_ ?_); exact rfl; exact rfl; (conv => arg 1; whnf)) | ((conv => arg 6; whnf); (with_reducible refine d_cons ?_ ?_ ?_); exact rfl; exact rfl; (conv => arg 1; whnf)) | ((conv => arg 5; whnf); (with_reducible refine ops_cons ?_ ?_ ?_); exact rfl; exact rfl; (conv => arg 1; whnf)) | ((with_reducible apply d_take); exact rfl; exact rfl; exact rfl; exact rfl; (conv => arg 1; whnf)) | ((with_reducible apply d_skip); exact rfl; exact rfl; exact rfl; exact rfl; (first | exact rfl | kernel_rfl)) | ((conv => arg 6; whnf); (with_reducible apply d_take); exact rfl; exact rfl; exact rfl; exact rfl; (conv => arg 1; whnf)) | ((conv => arg 6; whnf); (with_reducible apply d_skip); exact rfl; exact rfl; exact rfl; exact rfl; (first | exact rfl | kernel_rfl)) | ((with_reducible refine st_regionD ?_ ?_); kernel_rfl; (conv => arg 6; whnf)) | ((with_reducible refine st_seq ?_)) | ((with_reducible refine st_region rfl rfl ?_); (conv => arg 5; whnf)) | ((with_reducible refine st_block ?_)) | ((with_reducible refine st_skip ?_)) | ((with_reducible refine st_exit ?_)) | ((with_reducible refine st_ret ?_)) | ((with_reducible refine k_seq ?_)) | ((with_reducible refine k_seqX ?_)) | ((with_reducible refine k_seqR ?_)) | ((with_reducible refine k_block ?_)) | ((with_reducible refine k_blockX ?_)) | ((with_reducible refine k_blockY ?_ ?_); exact rfl) | ((with_reducible refine k_blockR ?_)) | ((with_reducible refine k_loopX ?_)) | ((with_reducible refine k_loopR ?_)) | ((with_reducible refine st_condT ?_ ?_); exact rfl) | ((with_reducible refine st_condF ?_ ?_); exact rfl)))
  ((conv => whnf); repeat ((first | refine And.intro (of_decide_eq_true rfl) ?_ | refine And.intro trivial ?_); conv => whnf))
  show (V.v (.int .i64 (wr (b.lo + wr ((wr (wr (b.hi - b.lo) * wr n)).tdiv 255))))) = (V.v (.int .i64 (pickF b n)))
  rw [wr_id (n := n) (by omega) (by omega)]
  rfl

def u8 (n : Int) : V := .v (.int .u8 n)
theorem bytes_get (l : List Int) (k : Nat) (h : k < l.length) : ((((bytesL l).drop (k * 1))[0]?).getD .top) = u8 l[k] := by simp [bytesL, h, u8]
def cPart : Con := { α := List Int × Int, enc := fun (l, i) => [.sl (bytesL l) l.length, (V.v (.int .i64 i))], ok := fun (l, i) => 0 ≤ i ∧ i ≤ 1000000 ∧ l.length ≤ 140737488355328, res := fun (l, i) => u8 (partF l i) }
theorem hPart : Has Try.prog 54 cPart := by
  refine has_of ctx_nil mix Try.func54 rfl (by kernel_rfl) ?_
  rintro ⟨l, i⟩ hok
  obtain ⟨h0, h1, h2⟩ : 0 ≤ i ∧ i ≤ 1000000 ∧ l.length ≤ 140737488355328 := hok
  refine ⟨of_decide_eq_true rfl, ?_⟩
  (repeat (first | ((with_reducible refine go_ret ?_)) | ((with_reducible refine go_put ?_); (conv => arg 1; whnf)) | ((with_reducible apply go_get); exact rfl; (conv => arg 1; whnf)) | ((with_reducible refine go_req ?_ ?_); exact (of_decide_eq_true rfl); (conv => arg 1; whnf)) | ((with_reducible refine go_req ?_ ?_); exact trivial; (conv => arg 1; whnf)) | ((with_reducible refine go_req ?_ ?_); exact rfl; (conv => arg 1; whnf)) | ((with_reducible refine go_reqP ?_ ?_); exact rfl; (conv => arg 1; whnf)) | ((with_reducible refine ops_nil ?_)) | ((with_reducible refine ops_cons ?_ ?_ ?_); exact rfl; exact rfl; (conv => arg 1; whnf)) | ((with_reducible apply ops_take); exact rfl; exact rfl; exact rfl; exact rfl; (conv => arg 1; whnf)) | ((with_reducible apply ops_skip); exact rfl; exact rfl; exact rfl; exact rfl) | ((with_reducible refine goT_ret ?_)) | ((with_reducible refine goT_put ?_); (conv => arg 1; whnf)) | ((with_reducible apply goT_get); exact rfl; (conv => arg 1; whnf)) | ((with_reducible refine goT_req ?_ ?_); exact (of_decide_eq_true rfl); (conv => arg 1; whnf)) | ((with_reducible refine goT_req ?_ ?_); exact trivial; (conv => arg 1; whnf)) | ((with_reducible refine goT_req ?_ ?_); exact rfl; (conv => arg 1; whnf)) | ((with_reducible refine goT_reqP ?_ ?_); exact rfl; (conv => arg 1; whnf)) | ((with_reducible refine d_step ?_ ?_); kernel_rfl) | ((with_reducible refine d_nil ?_)) | ((with_reducible refine d_cons ?_ ?_ ?_); exact rfl; exact rfl; (conv => arg 1; whnf)) | ((conv => arg 6; whnf); (with_reducible refine d_cons ?_ ?_ ?_); exact rfl; exact rfl; (conv => arg 1; whnf)) | ((conv => arg 5; whnf); (with_reducible refine ops_cons ?_ ?_ ?_); exact rfl; exact rfl; (conv => arg 1; whnf)) | ((with_reducible apply d_take); exact rfl; exact rfl; exact rfl; exact rfl; (conv => arg 1; whnf)) | ((with_reducible apply d_skip); exact rfl; exact rfl; exact rfl; exact rfl; (first | exact rfl | kernel_rfl)) | ((conv => arg 6; whnf); (with_reducible apply d_take); exact rfl; exact rfl; exact rfl; exact rfl; (conv => arg 1; whnf)) | ((conv => arg 6; whnf); (with_reducible apply d_skip); exact rfl; exact rfl; exact rfl; exact rfl; (first | exact rfl | kernel_rfl)) | ((with_reducible refine st_regionD ?_ ?_); kernel_rfl; (conv => arg 6; whnf)) | ((with_reducible refine st_seq ?_)) | ((with_reducible refine st_region rfl rfl ?_); (conv => arg 5; whnf)) | ((with_reducible refine st_block ?_)) | ((with_reducible refine st_skip ?_)) | ((with_reducible refine st_exit ?_)) | ((with_reducible refine st_ret ?_)) | ((with_reducible refine k_seq ?_)) | ((with_reducible refine k_seqX ?_)) | ((with_reducible refine k_seqR ?_)) | ((with_reducible refine k_block ?_)) | ((with_reducible refine k_blockX ?_)) | ((with_reducible refine k_blockY ?_ ?_); exact rfl) | ((with_reducible refine k_blockR ?_)) | ((with_reducible refine k_loopX ?_)) | ((with_reducible refine k_loopR ?_)) | ((with_reducible refine st_condT ?_ ?_); exact rfl) | ((with_reducible refine st_condF ?_ ?_); exact rfl)))
  (first | ((with_reducible apply ops_test); exact rfl; exact rfl; exact rfl; exact rfl; intro hb; (try simp only [Bool.not_true, Bool.not_false] at hb); (try simp only [hb]); (conv => arg 1; whnf); rotate_left; intro hb; (try simp only [Bool.not_true, Bool.not_false] at hb); (try simp only [hb]); rotate_right) | ((with_reducible apply d_test); exact rfl; exact rfl; exact rfl; exact rfl; (first | exact rfl | kernel_rfl); intro hb; (try simp only [Bool.not_true, Bool.not_false] at hb); (try simp only [hb]); (conv => arg 1; whnf); rotate_left; intro hb; (try simp only [Bool.not_true, Bool.not_false] at hb); (try simp only [hb]); rotate_right) | ((conv => arg 6; whnf); (with_reducible apply d_test); exact rfl; exact rfl; exact rfl; exact rfl; (first | exact rfl | kernel_rfl); intro hb; (try simp only [Bool.not_true, Bool.not_false] at hb); (try simp only [hb]); (conv => arg 1; whnf); rotate_left; intro hb; (try simp only [Bool.not_true, Bool.not_false] at hb); (try simp only [hb]); rotate_right) | ((with_reducible apply st_cond); exact rfl; intro hb; (try simp only [Bool.not_true, Bool.not_false] at hb); (try simp only [hb]); rotate_left; intro hb; (try simp only [Bool.not_true, Bool.not_false] at hb); (try simp only [hb]); rotate_right))
  · have hl : l.length = 0 := by simpa using hb
    (repeat (first | ((with_reducible refine go_ret ?_)) | ((with_reducible refine go_put ?_); (conv => arg 1; whnf)) | ((with_reducible apply go_get); exact rfl; (conv => arg 1; whnf)) | ((with_reducible refine go_req ?_ ?_); exact (of_decide_eq_true rfl); (conv => arg 1; whnf)) | ((with_reducible refine go_req ?_ ?_); exact trivial; (conv => arg 1; whnf)) | ((with_reducible refine go_req ?_ ?_); exact rfl; (conv => arg 1; whnf)) | ((with_reducible refine go_reqP ?_ ?_); exact rfl; (conv => arg 1; whnf)) | ((with_reducible refine ops_nil ?_)) | ((with_reducible refine ops_cons ?_ ?_ ?_); exact rfl; exact rfl; (conv => arg 1; whnf)) | ((with_reducible apply ops_take); exact rfl; exact rfl; exact rfl; exact rfl; (conv => arg 1; whnf)) | ((with_reducible apply ops_skip); exact rfl; exact rfl; exact rfl; exact rfl) | ((with_reducible refine goT_ret ?_)) | ((with_reducible refine goT_put ?_); (conv => arg 1; whnf)) | ((with_reducible apply goT_get); exact rfl; (conv => arg 1; whnf)) | ((with_reducible refine goT_req ?_ ?_); exact (of_decide_eq_true rfl); (conv => arg 1; whnf)) | ((with_reducible refine goT_req ?_ ?_); exact trivial; (conv => arg 1; whnf)) | ((with_reducible refine goT_req ?_ ?_); exact rfl; (conv => arg 1; whnf)) | ((with_reducible refine goT_reqP ?_ ?_); exact rfl; (conv => arg 1; whnf)) | ((with_reducible refine d_step ?_ ?_); kernel_rfl) | ((with_reducible refine d_nil ?_)) | ((with_reducible refine d_cons ?_ ?_ ?_); exact rfl; exact rfl; (conv => arg 1; whnf)) | ((conv => arg 6; whnf); (with_reducible refine d_cons ?_ ?_ ?_); exact rfl; exact rfl; (conv => arg 1; whnf)) | ((conv => arg 5; whnf); (with_reducible refine ops_cons ?_ ?_ ?_); exact rfl; exact rfl; (conv => arg 1; whnf)) | ((with_reducible apply d_take); exact rfl; exact rfl; exact rfl; exact rfl; (conv => arg 1; whnf)) | ((with_reducible apply d_skip); exact rfl; exact rfl; exact rfl; exact rfl; (first | exact rfl | kernel_rfl)) | ((conv => arg 6; whnf); (with_reducible apply d_take); exact rfl; exact rfl; exact rfl; exact rfl; (conv => arg 1; whnf)) | ((conv => arg 6; whnf); (with_reducible apply d_skip); exact rfl; exact rfl; exact rfl; exact rfl; (first | exact rfl | kernel_rfl)) | ((with_reducible refine st_regionD ?_ ?_); kernel_rfl; (conv => arg 6; whnf)) | ((with_reducible refine st_seq ?_)) | ((with_reducible refine st_region rfl rfl ?_); (conv => arg 5; whnf)) | ((with_reducible refine st_block ?_)) | ((with_reducible refine st_skip ?_)) | ((with_reducible refine st_exit ?_)) | ((with_reducible refine st_ret ?_)) | ((with_reducible refine k_seq ?_)) | ((with_reducible refine k_seqX ?_)) | ((with_reducible refine k_seqR ?_)) | ((with_reducible refine k_block ?_)) | ((with_reducible refine k_blockX ?_)) | ((with_reducible refine k_blockY ?_ ?_); exact rfl) | ((with_reducible refine k_blockR ?_)) | ((with_reducible refine k_loopX ?_)) | ((with_reducible refine k_loopR ?_)) | ((with_reducible refine st_condT ?_ ?_); exact rfl) | ((with_reducible refine st_condF ?_ ?_); exact rfl)))
    ((conv => whnf); repeat ((first | refine And.intro (of_decide_eq_true rfl) ?_ | refine And.intro trivial ?_); conv => whnf))
    show u8 0 = u8 (partF l i)
    rw [partF, if_pos hl]
  · have hl : l.length ≠ 0 := by simpa using hb
    (repeat (first | ((with_reducible refine go_ret ?_)) | ((with_reducible refine go_put ?_); (conv => arg 1; whnf)) | ((with_reducible apply go_get); exact rfl; (conv => arg 1; whnf)) | ((with_reducible refine go_req ?_ ?_); exact (of_decide_eq_true rfl); (conv => arg 1; whnf)) | ((with_reducible refine go_req ?_ ?_); exact trivial; (conv => arg 1; whnf)) | ((with_reducible refine go_req ?_ ?_); exact rfl; (conv => arg 1; whnf)) | ((with_reducible refine go_reqP ?_ ?_); exact rfl; (conv => arg 1; whnf)) | ((with_reducible refine ops_nil ?_)) | ((with_reducible refine ops_cons ?_ ?_ ?_); exact rfl; exact rfl; (conv => arg 1; whnf)) | ((with_reducible apply ops_take); exact rfl; exact rfl; exact rfl; exact rfl; (conv => arg 1; whnf)) | ((with_reducible apply ops_skip); exact rfl; exact rfl; exact rfl; exact rfl) | ((with_reducible refine goT_ret ?_)) | ((with_reducible refine goT_put ?_); (conv => arg 1; whnf)) | ((with_reducible apply goT_get); exact rfl; (conv => arg 1; whnf)) | ((with_reducible refine goT_req ?_ ?_); exact (of_decide_eq_true rfl); (conv => arg 1; whnf)) | ((with_reducible refine goT_req ?_ ?_); exact trivial; (conv => arg 1; whnf)) | ((with_reducible refine goT_req ?_ ?_); exact rfl; (conv => arg 1; whnf)) | ((with_reducible refine goT_reqP ?_ ?_); exact rfl; (conv => arg 1; whnf)) | ((with_reducible refine d_step ?_ ?_); kernel_rfl) | ((with_reducible refine d_nil ?_)) | ((with_reducible refine d_cons ?_ ?_ ?_); exact rfl; exact rfl; (conv => arg 1; whnf)) | ((conv => arg 6; whnf); (with_reducible refine d_cons ?_ ?_ ?_); exact rfl; exact rfl; (conv => arg 1; whnf)) | ((conv => arg 5; whnf); (with_reducible refine ops_cons ?_ ?_ ?_); exact rfl; exact rfl; (conv => arg 1; whnf)) | ((with_reducible apply d_take); exact rfl; exact rfl; exact rfl; exact rfl; (conv => arg 1; whnf)) | ((with_reducible apply d_skip); exact rfl; exact rfl; exact rfl; exact rfl; (first | exact rfl | kernel_rfl)) | ((conv => arg 6; whnf); (with_reducible apply d_take); exact rfl; exact rfl; exact rfl; exact rfl; (conv => arg 1; whnf)) | ((conv => arg 6; whnf); (with_reducible apply d_skip); exact rfl; exact rfl; exact rfl; exact rfl; (first | exact rfl | kernel_rfl)) | ((with_reducible refine st_regionD ?_ ?_); kernel_rfl; (conv => arg 6; whnf)) | ((with_reducible refine st_seq ?_)) | ((with_reducible refine st_region rfl rfl ?_); (conv => arg 5; whnf)) | ((with_reducible refine st_block ?_)) | ((with_reducible refine st_skip ?_)) | ((with_reducible refine st_exit ?_)) | ((with_reducible refine st_ret ?_)) | ((with_reducible refine k_seq ?_)) | ((with_reducible refine k_seqX ?_)) | ((with_reducible refine k_seqR ?_)) | ((with_reducible refine k_block ?_)) | ((with_reducible refine k_blockX ?_)) | ((with_reducible refine k_blockY ?_ ?_); exact rfl) | ((with_reducible refine k_blockR ?_)) | ((with_reducible refine k_loopX ?_)) | ((with_reducible refine k_loopR ?_)) | ((with_reducible refine st_condT ?_ ?_); exact rfl) | ((with_reducible refine st_condF ?_ ?_); exact rfl)))
    (refine go_req ((show (l.length : Int) ≠ 0 by omega)) ?_; (conv => arg 1; whnf)); (repeat (first | ((with_reducible refine go_ret ?_)) | ((with_reducible refine go_put ?_); (conv => arg 1; whnf)) | ((with_reducible apply go_get); exact rfl; (conv => arg 1; whnf)) | ((with_reducible refine go_req ?_ ?_); exact (of_decide_eq_true rfl); (conv => arg 1; whnf)) | ((with_reducible refine go_req ?_ ?_); exact trivial; (conv => arg 1; whnf)) | ((with_reducible refine go_req ?_ ?_); exact rfl; (conv => arg 1; whnf)) | ((with_reducible refine go_reqP ?_ ?_); exact rfl; (conv => arg 1; whnf)) | ((with_reducible refine ops_nil ?_)) | ((with_reducible refine ops_cons ?_ ?_ ?_); exact rfl; exact rfl; (conv => arg 1; whnf)) | ((with_reducible apply ops_take); exact rfl; exact rfl; exact rfl; exact rfl; (conv => arg 1; whnf)) | ((with_reducible apply ops_skip); exact rfl; exact rfl; exact rfl; exact rfl) | ((with_reducible refine goT_ret ?_)) | ((with_reducible refine goT_put ?_); (conv => arg 1; whnf)) | ((with_reducible apply goT_get); exact rfl; (conv => arg 1; whnf)) | ((with_reducible refine goT_req ?_ ?_); exact (of_decide_eq_true rfl); (conv => arg 1; whnf)) | ((with_reducible refine goT_req ?_ ?_); exact trivial; (conv => arg 1; whnf)) | ((with_reducible refine goT_req ?_ ?_); exact rfl; (conv => arg 1; whnf)) | ((with_reducible refine goT_reqP ?_ ?_); exact rfl; (conv => arg 1; whnf)) | ((with_reducible refine d_step ?_ ?_); kernel_rfl) | ((with_reducible refine d_nil ?_)) | ((with_reducible refine d_cons ?_ ?_ ?_); exact rfl; exact rfl; (conv => arg 1; whnf)) | ((conv => arg 6; whnf); (with_reducible refine d_cons ?_ ?_ ?_); exact rfl; exact rfl; (conv => arg 1; whnf)) | ((conv => arg 5; whnf); (with_reducible refine ops_cons ?_ ?_ ?_); exact rfl; exact rfl; (conv => arg 1; whnf)) | ((with_reducible apply d_take); exact rfl; exact rfl; exact rfl; exact rfl; (conv => arg 1; whnf)) | ((with_reducible apply d_skip); exact rfl; exact rfl; exact rfl; exact rfl; (first | exact rfl | kernel_rfl)) | ((conv => arg 6; whnf); (with_reducible apply d_take); exact rfl; exact rfl; exact rfl; exact rfl; (conv => arg 1; whnf)) | ((conv => arg 6; whnf); (with_reducible apply d_skip); exact rfl; exact rfl; exact rfl; exact rfl; (first | exact rfl | kernel_rfl)) | ((with_reducible refine st_regionD ?_ ?_); kernel_rfl; (conv => arg 6; whnf)) | ((with_reducible refine st_seq ?_)) | ((with_reducible refine st_region rfl rfl ?_); (conv => arg 5; whnf)) | ((with_reducible refine st_block ?_)) | ((with_reducible refine st_skip ?_)) | ((with_reducible refine st_exit ?_)) | ((with_reducible refine st_ret ?_)) | ((with_reducible refine k_seq ?_)) | ((with_reducible refine k_seqX ?_)) | ((with_reducible refine k_seqR ?_)) | ((with_reducible refine k_block ?_)) | ((with_reducible refine k_blockX ?_)) | ((with_reducible refine k_blockY ?_ ?_); exact rfl) | ((with_reducible refine k_blockR ?_)) | ((with_reducible refine k_loopX ?_)) | ((with_reducible refine k_loopR ?_)) | ((with_reducible refine st_condT ?_ ?_); exact rfl) | ((with_reducible refine st_condF ?_ ?_); exact rfl)))
    have q0 := Int.tmod_nonneg (l.length : Int) h0
    have q1 : i.tmod l.length < l.length := Int.tmod_lt_of_pos i (by omega)
    have hk : (i.tmod l.length).toNat < l.length := by omega
    (refine go_req ((show 0 ≤ i.tmod l.length ∧ i.tmod l.length < (l.length : Int) ∧ l.length * 1 = (bytesL l).length ∧ 0 < 1 by simp [bytesL]; omega)) ?_; (conv => arg 1; whnf)); (repeat (first | ((with_reducible refine go_ret ?_)) | ((with_reducible refine go_put ?_); (conv => arg 1; whnf)) | ((with_reducible apply go_get); exact rfl; (conv => arg 1; whnf)) | ((with_reducible refine go_req ?_ ?_); exact (of_decide_eq_true rfl); (conv => arg 1; whnf)) | ((with_reducible refine go_req ?_ ?_); exact trivial; (conv => arg 1; whnf)) | ((with_reducible refine go_req ?_ ?_); exact rfl; (conv => arg 1; whnf)) | ((with_reducible refine go_reqP ?_ ?_); exact rfl; (conv => arg 1; whnf)) | ((with_reducible refine ops_nil ?_)) | ((with_reducible refine ops_cons ?_ ?_ ?_); exact rfl; exact rfl; (conv => arg 1; whnf)) | ((with_reducible apply ops_take); exact rfl; exact rfl; exact rfl; exact rfl; (conv => arg 1; whnf)) | ((with_reducible apply ops_skip); exact rfl; exact rfl; exact rfl; exact rfl) | ((with_reducible refine goT_ret ?_)) | ((with_reducible refine goT_put ?_); (conv => arg 1; whnf)) | ((with_reducible apply goT_get); exact rfl; (conv => arg 1; whnf)) | ((with_reducible refine goT_req ?_ ?_); exact (of_decide_eq_true rfl); (conv => arg 1; whnf)) | ((with_reducible refine goT_req ?_ ?_); exact trivial; (conv => arg 1; whnf)) | ((with_reducible refine goT_req ?_ ?_); exact rfl; (conv => arg 1; whnf)) | ((with_reducible refine goT_reqP ?_ ?_); exact rfl; (conv => arg 1; whnf)) | ((with_reducible refine d_step ?_ ?_); kernel_rfl) | ((with_reducible refine d_nil ?_)) | ((with_reducible refine d_cons ?_ ?_ ?_); exact rfl; exact rfl; (conv => arg 1; whnf)) | ((conv => arg 6; whnf); (with_reducible refine d_cons ?_ ?_ ?_); exact rfl; exact rfl; (conv => arg 1; whnf)) | ((conv => arg 5; whnf); (with_reducible refine ops_cons ?_ ?_ ?_); exact rfl; exact rfl; (conv => arg 1; whnf)) | ((with_reducible apply d_take); exact rfl; exact rfl; exact rfl; exact rfl; (conv => arg 1; whnf)) | ((with_reducible apply d_skip); exact rfl; exact rfl; exact rfl; exact rfl; (first | exact rfl | kernel_rfl)) | ((conv => arg 6; whnf); (with_reducible apply d_take); exact rfl; exact rfl; exact rfl; exact rfl; (conv => arg 1; whnf)) | ((conv => arg 6; whnf); (with_reducible apply d_skip); exact rfl; exact rfl; exact rfl; exact rfl; (first | exact rfl | kernel_rfl)) | ((with_reducible refine st_regionD ?_ ?_); kernel_rfl; (conv => arg 6; whnf)) | ((with_reducible refine st_seq ?_)) | ((with_reducible refine st_region rfl rfl ?_); (conv => arg 5; whnf)) | ((with_reducible refine st_block ?_)) | ((with_reducible refine st_skip ?_)) | ((with_reducible refine st_exit ?_)) | ((with_reducible refine st_ret ?_)) | ((with_reducible refine k_seq ?_)) | ((with_reducible refine k_seqX ?_)) | ((with_reducible refine k_seqR ?_)) | ((with_reducible refine k_block ?_)) | ((with_reducible refine k_blockX ?_)) | ((with_reducible refine k_blockY ?_ ?_); exact rfl) | ((with_reducible refine k_blockR ?_)) | ((with_reducible refine k_loopX ?_)) | ((with_reducible refine k_loopR ?_)) | ((with_reducible refine st_condT ?_ ?_); exact rfl) | ((with_reducible refine st_condF ?_ ?_); exact rfl)))
    refine go_req (show 0 < ((bytesL l).drop ((i.tmod l.length).toNat * 1)).length by simp [bytesL]; omega) ?_
    show (RM.retF ((((bytesL l).drop ((i.tmod l.length).toNat * 1))[0]?).getD .top)).go _ _
    rw [bytes_get l _ hk]
    (conv => arg 1; whnf)
    (repeat (first | ((with_reducible refine go_ret ?_)) | ((with_reducible refine go_put ?_); (conv => arg 1; whnf)) | ((with_reducible apply go_get); exact rfl; (conv => arg 1; whnf)) | ((with_reducible refine go_req ?_ ?_); exact (of_decide_eq_true rfl); (conv => arg 1; whnf)) | ((with_reducible refine go_req ?_ ?_); exact trivial; (conv => arg 1; whnf)) | ((with_reducible refine go_req ?_ ?_); exact rfl; (conv => arg 1; whnf)) | ((with_reducible refine go_reqP ?_ ?_); exact rfl; (conv => arg 1; whnf)) | ((with_reducible refine ops_nil ?_)) | ((with_reducible refine ops_cons ?_ ?_ ?_); exact rfl; exact rfl; (conv => arg 1; whnf)) | ((with_reducible apply ops_take); exact rfl; exact rfl; exact rfl; exact rfl; (conv => arg 1; whnf)) | ((with_reducible apply ops_skip); exact rfl; exact rfl; exact rfl; exact rfl) | ((with_reducible refine goT_ret ?_)) | ((with_reducible refine goT_put ?_); (conv => arg 1; whnf)) | ((with_reducible apply goT_get); exact rfl; (conv => arg 1; whnf)) | ((with_reducible refine goT_req ?_ ?_); exact (of_decide_eq_true rfl); (conv => arg 1; whnf)) | ((with_reducible refine goT_req ?_ ?_); exact trivial; (conv => arg 1; whnf)) | ((with_reducible refine goT_req ?_ ?_); exact rfl; (conv => arg 1; whnf)) | ((with_reducible refine goT_reqP ?_ ?_); exact rfl; (conv => arg 1; whnf)) | ((with_reducible refine d_step ?_ ?_); kernel_rfl) | ((with_reducible refine d_nil ?_)) | ((with_reducible refine d_cons ?_ ?_ ?_); exact rfl; exact rfl; (conv => arg 1; whnf)) | ((conv => arg 6; whnf); (with_reducible refine d_cons ?_ ?_ ?_); exact rfl; exact rfl; (conv => arg 1; whnf)) | ((conv => arg 5; whnf); (with_reducible refine ops_cons ?_ ?_ ?_); exact rfl; exact rfl; (conv => arg 1; whnf)) | ((with_reducible apply d_take); exact rfl; exact rfl; exact rfl; exact rfl; (conv => arg 1; whnf)) | ((with_reducible apply d_skip); exact rfl; exact rfl; exact rfl; exact rfl; (first | exact rfl | kernel_rfl)) | ((conv => arg 6; whnf); (with_reducible apply d_take); exact rfl; exact rfl; exact rfl; exact rfl; (conv => arg 1; whnf)) | ((conv => arg 6; whnf); (with_reducible apply d_skip); exact rfl; exact rfl; exact rfl; exact rfl; (first | exact rfl | kernel_rfl)) | ((with_reducible refine st_regionD ?_ ?_); kernel_rfl; (conv => arg 6; whnf)) | ((with_reducible refine st_seq ?_)) | ((with_reducible refine st_region rfl rfl ?_); (conv => arg 5; whnf)) | ((with_reducible refine st_block ?_)) | ((with_reducible refine st_skip ?_)) | ((with_reducible refine st_exit ?_)) | ((with_reducible refine st_ret ?_)) | ((with_reducible refine k_seq ?_)) | ((with_reducible refine k_seqX ?_)) | ((with_reducible refine k_seqR ?_)) | ((with_reducible refine k_block ?_)) | ((with_reducible refine k_blockX ?_)) | ((with_reducible refine k_blockY ?_ ?_); exact rfl) | ((with_reducible refine k_blockR ?_)) | ((with_reducible refine k_loopX ?_)) | ((with_reducible refine k_loopR ?_)) | ((with_reducible refine st_condT ?_ ?_); exact rfl) | ((with_reducible refine st_condF ?_ ?_); exact rfl)))
    ((conv => whnf); repeat ((first | refine And.intro (of_decide_eq_true rfl) ?_ | refine And.intro trivial ?_); conv => whnf))
    show u8 l[(i.tmod l.length).toNat] = u8 (partF l i)
    rw [partF, if_neg hl, List.getElem?_eq_getElem hk]
    rfl
end Go.Ev
