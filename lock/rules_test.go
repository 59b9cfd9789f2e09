package lock_test

import (
	"math"
	"reflect"
	"slices"
	"testing"

	"thalweg/api"
	"thalweg/lock"
)

// R4: no argument is changed.
func TestArgumentsStay(t *testing.T) {
	tows, plan := append([]api.LockTow{rising(90, 20)}, three()...), steps(up(1), down(1), up(2))
	lock.Run(example(), tows, plan)
	lock.Water(example(), tows, plan)
	lock.Best(example(), tows)
	lock.Thrift(example(), tows, 1000)
	if !slices.Equal(tows, append([]api.LockTow{rising(90, 20)}, three()...)) || !slices.Equal(plan, steps(up(1), down(1), up(2))) {
		t.Errorf("tows or a plan were changed: %v, %v", tows, plan)
	}
	reaches, locks := chain()
	lock.Days(reaches, locks, 5)
	lock.Short(reaches, locks, 5)
	sameReaches, sameLocks := chain()
	if !slices.Equal(reaches, sameReaches) || !slices.Equal(locks, sameLocks) {
		t.Errorf("a chain was changed: %v, %v", reaches, locks)
	}
}

// A result is new memory: to write into it changes neither another list of the result nor a later call.
func TestResultsAreNew(t *testing.T) {
	plan := steps(up(2), down(1))
	reaches, locks := chain()
	for range 2 {
		runs, _, _, _ := lock.Run(example(), three(), plan)
		cheap, _, _ := lock.Best(example(), three())
		thrifty, _, _ := lock.Thrift(example(), three(), 140)
		ends, _ := lock.Days(reaches, locks, 2)
		if !slices.Equal(runs, []api.LockRun{span(10, 30), span(30, 50)}) || !slices.Equal(cheap, steps(up(2), down(1))) || !slices.Equal(thrifty, cheap) {
			t.Errorf("%v, %v, %v", runs, cheap, thrifty)
		}
		runs[0], cheap[0], thrifty[1] = span(-1, -1), up(-1), up(-2)
		_ = append(ends[0], at(-1))
		ends[0][0], ends[0][1] = at(-1), at(-1)
		if !reflect.DeepEqual(ends[1], []api.Bounds{to(7000, 9200), to(7000, 9000)}) {
			t.Errorf("the lists of Days share memory: %v", ends)
		}
	}
	if !slices.Equal(plan, steps(up(2), down(1))) {
		t.Errorf("the plan was changed: %v", plan)
	}
}

// R3: nil and empty lists are the same.
func TestNilIsEmpty(t *testing.T) {
	for _, tows := range [][]api.LockTow{nil, {}} {
		for _, plan := range [][]api.LockStep{nil, {}} {
			runs, cost, moves, e := lock.Run(high(example()), tows, plan)
			w, f := lock.Water(high(example()), tows, plan)
			if len(runs)+cost+moves != 0 || w != (api.LockWater{}) || e != api.OK || f != api.OK {
				t.Error(runs, cost, moves, w, e, f)
			}
		}
		cheap, cost, e := lock.Best(example(), tows)
		thrifty, other, f := lock.Thrift(example(), tows, 0)
		if len(cheap)+cost+len(thrifty)+other != 0 || e != api.OK || f != api.OK {
			t.Error(cheap, cost, thrifty, other, e, f)
		}
	}
	expect(t, "no reaches", days([]api.LockReach{}, []api.LockTraffic{}, 1), api.ErrForm)
	reaches, _ := chain()
	expect(t, "no locks", days(reaches[:1], []api.LockTraffic{}, 1), api.OK)
}

// P1: no function panics, or returns anything but zero values with an error, for the least and the greatest integers.
func TestExtremeNumbers(t *testing.T) {
	reaches, locks := chain()
	for _, n := range []int{math.MinInt, math.MinInt + 1, math.MaxInt - 1, math.MaxInt} {
		strange := api.Lock{Length: n, Cycle: n, Turn: n, Fill: n, Save: n}
		if e := lock.Check(strange); e != api.ErrArg {
			t.Errorf("Check returns %d", e)
		}
		x := api.LockTow{Arrive: n, Length: n, Weight: n, Push: n}
		expectAll(t, "lock", strange, three(), steps(up(2), down(1)), api.ErrArg)
		expectAll(t, "tow", example(), []api.LockTow{x}, steps(down(1)), api.ErrArg)
		expect(t, "Run", run(example(), three(), steps(up(n), down(n))), api.ErrForm)
		expect(t, "Water", water(example(), three(), steps(up(1), up(n), down(1))), api.ErrForm)
		least := api.OK
		if n < 0 {
			least = api.ErrNone
		}
		expect(t, "Thrift", thrift(example(), three(), n), least)
		for _, b := range []api.Bounds{at(n), to(math.MinInt, n), to(n, math.MaxInt)} {
			expect(t, "Days, reach", days([]api.LockReach{reach(n, n, b), reaches[1]}, locks, 1), api.ErrArg)
			expect(t, "Days, inflow", days([]api.LockReach{reach(1, 1, b), reaches[1]}, locks, 1), api.ErrArg)
			expect(t, "Short, lock", short(reaches, []api.LockTraffic{traffic(n, b)}, 1), api.ErrArg)
			expect(t, "Short, cycles", short(reaches, []api.LockTraffic{traffic(1, b)}, 1), api.ErrArg)
		}
		expect(t, "Days", days(reaches, locks, n), api.ErrRange)
		expect(t, "Short", short(reaches, locks, n), api.ErrRange)
	}
}

// P1: the greatest numbers that are allowed, and the most plans, need no long time.
func TestGreatestPlans(t *testing.T) {
	l := api.Lock{Length: 500, Cycle: 500, Turn: 500, Fill: 1000000, Save: 90}
	var tows []api.LockTow
	for i := range 8 {
		tows = append(tows, api.LockTow{Up: i%2 == 0, Arrive: 100000, Length: 1500, Weight: 100, Push: 100000})
	}
	// Each step is 3 parts, and no empty turn is before it: 2500 minutes.
	plan, cost, e := lock.Best(l, tows)
	if !slices.Equal(plan, slices.Repeat(steps(up(1), down(1)), 4)) || cost != 100*2500*36 || e != api.OK {
		t.Errorf("%v, cost %d, error %d", plan, cost, e)
	}
	for i := range tows {
		tows[i].Length, tows[i].Weight = 1, 0
	}
	for range 20 {
		plan, cost, e = lock.Best(l, tows)
		thrifty, _, f := lock.Thrift(l, tows, 0)
		if !slices.Equal(plan, steps(up(4), down(4))) || cost != 0 || e != api.OK || !slices.Equal(thrifty, plan) || f != api.OK {
			t.Errorf("%v, cost %d, errors %d and %d, %v", plan, cost, e, f, thrifty)
		}
	}
}
