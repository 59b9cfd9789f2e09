package lock_test

import (
	"slices"
	"testing"

	"thalweg/api"
	"thalweg/lock"
)

// P4.10: steps do not overlap, no tow is faster than a lockage, and those of a direction leave in their order.
func TestStepsInTheirOrder(t *testing.T) {
	d := newDice(44)
	for range 1000 {
		l := d.lock()
		tows := d.tows(l, d.from(1, 8))
		plan := d.plan(t, l, tows)
		runs, _, _, e := lock.Run(l, tows, plan)
		if len(runs) != len(plan) || e != api.OK {
			t.Fatalf("%v: %v, error %d", plan, runs, e)
		}
		free, leaves := 0, map[bool]int{}
		w := wait{tows: tows}
		for i, r := range runs {
			if r.Start < free || r.End < leaves[plan[i].Up] {
				t.Fatalf("%v: %v", plan, runs)
			}
			free, leaves[plan[i].Up] = r.End, r.End
			for range plan[i].Tows {
				if x := w.next(plan[i].Up); r.Start < x.Arrive || r.End < x.Arrive+l.Cycle {
					t.Fatalf("%v leaves at %d", x, r.End)
				}
			}
		}
	}
}

// costOf returns the cost of the best plan.
func costOf(t *testing.T, l api.Lock, tows []api.LockTow) int {
	t.Helper()
	_, cost, e := lock.Best(l, tows)
	if e != api.OK {
		t.Fatalf("%v, %v: error %d", l, tows, e)
	}
	return cost
}

// P4.11: a better lock has no higher cost, and fewer tows have none, if turns are short.
func TestBetterLocks(t *testing.T) {
	d, less, fewer := newDice(45), 0, 0
	for range 300 {
		l := d.lock()
		tows := d.tows(l, d.from(1, 7))
		cost := costOf(t, l, tows)
		longer, quicker, turning := l, l, l
		longer.Length += d.from(1, 100)
		quicker.Cycle = d.from(1, l.Cycle)
		turning.Turn = d.from(0, l.Turn)
		for _, better := range []api.Lock{longer, quicker, turning} {
			n := costOf(t, better, tows)
			if n > cost {
				t.Fatalf("%v costs %d, %v only %d: %v", better, n, l, cost, tows)
			}
			if n < cost {
				less++
			}
		}
		if l.Turn > l.Cycle {
			continue
		}
		i := d.Intn(len(tows))
		if n := costOf(t, l, slices.Delete(slices.Clone(tows), i, i+1)); n > cost {
			t.Fatalf("%v, %v: %d, without %d %d", l, tows, cost, i, n)
		}
		fewer++
	}
	if less < 200 || fewer < 100 {
		t.Errorf("only %d better locks cost less, %d have a tow less", less, fewer)
	}
}
