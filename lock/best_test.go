package lock_test

import (
	"slices"
	"testing"

	"thalweg/api"
	"thalweg/lock"
)

// P4.4 and example 1: the least cost, then the fewest movements, then the smallest list.
func TestBest(t *testing.T) {
	l := example()
	slow := l
	slow.Turn = 100
	heavy := sinking(0, 50)
	heavy.Weight = 100
	for name, c := range map[string]struct {
		l    api.Lock
		tows []api.LockTow
		plan []api.LockStep
		cost int
	}{
		"example 1":             {l, three(), steps(up(2), down(1)), 140},
		"example 3":             {l, []api.LockTow{sinking(0, 250)}, steps(down(1)), 90},
		"no tows":               {l, nil, nil, 0},
		"one":                   {l, []api.LockTow{rising(5, 1)}, steps(up(1)), 20},
		"as the chamber is":     {l, []api.LockTow{sinking(0, 1), rising(0, 1)}, steps(up(1), down(1)), 60},
		"as the chamber is 2":   {high(l), []api.LockTow{rising(0, 1), sinking(0, 1)}, steps(down(1), up(1)), 60},
		"heavy one first":       {l, []api.LockTow{heavy, rising(0, 1)}, steps(down(1), up(1)), 3000 + 50},
		"not wait for another":  {l, []api.LockTow{rising(0, 1), rising(30, 1)}, steps(up(1), up(1)), 40},
		"wait for another":      {slow, []api.LockTow{rising(0, 1), rising(30, 1)}, steps(up(2)), 70},
		"first of all come":     {l, []api.LockTow{rising(0, 50), rising(0, 50), rising(0, 50)}, steps(up(2), up(1)), 40 + 50},
		"no weight, few moves":  {l, light(rising(0, 1), rising(9, 1), sinking(0, 1)), steps(up(2), down(1)), 0},
		"no weight, down first": {l, light(rising(0, 1), sinking(0, 60), sinking(0, 60)), steps(down(1), up(1), down(1)), 0},
		"no weight, few tows":   {l, light(rising(0, 60), rising(0, 40), rising(0, 60)), steps(up(1), up(2)), 0},
		"no weight, 4 tows":     {l, light(rising(0, 30), rising(0, 30), rising(0, 30), rising(0, 30)), steps(up(1), up(3)), 0},
	} {
		plan, cost, e := lock.Best(c.l, c.tows)
		if !slices.Equal(plan, c.plan) || cost != c.cost || e != api.OK {
			t.Errorf("%s: %v, cost %d, error %d", name, plan, cost, e)
		}
	}
}

// P4.5 and example 4: the least water, then the least cost.
func TestThrift(t *testing.T) {
	l := example()
	dry := l
	dry.Fill = 0
	pair := []api.LockTow{rising(0, 1), rising(30, 1)}
	for name, c := range map[string]struct {
		l    api.Lock
		tows []api.LockTow
		most int
		plan []api.LockStep
		cost int
	}{
		"example 4":             {l, three(), 140, steps(up(2), down(1)), 140},
		"any cost":              {l, three(), 1 << 40, steps(up(2), down(1)), 140},
		"no tows":               {l, nil, 0, nil, 0},
		"no weight":             {l, light(rising(0, 1)), 0, steps(up(1)), 0},
		"cost of the best plan": {l, pair, 40, steps(up(1), up(1)), 40},
		"one too cheap":         {l, pair, 69, steps(up(1), up(1)), 40},
		"just cheap enough":     {l, pair, 70, steps(up(2)), 70},
		"cheap enough":          {l, pair, 1000, steps(up(2)), 70},
		"no water at all":       {dry, pair, 1000, steps(up(1), up(1)), 40},
		"as much water":         {high(l), []api.LockTow{sinking(0, 100), sinking(0, 60), sinking(0, 40)}, 1000, steps(down(1), down(2)), 20 + 50 + 50},
		"as much, down first":   {high(l), light(rising(0, 60), rising(0, 60), sinking(0, 1)), 1000, steps(down(1), up(1), up(1)), 0},
	} {
		plan, cost, e := lock.Thrift(c.l, c.tows, c.most)
		if !slices.Equal(plan, c.plan) || cost != c.cost || e != api.OK {
			t.Errorf("%s: %v, cost %d, error %d", name, plan, cost, e)
		}
	}
}

// P4.5: no plan is cheap enough.
func TestThriftFails(t *testing.T) {
	l := example()
	expect(t, "example 4", thrift(l, three(), 139), api.ErrNone)
	expect(t, "below 0", thrift(l, three(), -1), api.ErrNone)
	expect(t, "no tows", thrift(l, nil, -1), api.ErrNone)
	expect(t, "no weight", thrift(l, light(rising(0, 1)), -1), api.ErrNone)
	expect(t, "one tow", thrift(l, []api.LockTow{rising(0, 1)}, 19), api.ErrNone)
	expect(t, "one tow, just", thrift(l, []api.LockTow{rising(0, 1)}, 20), api.OK)
}

// allPlans returns all complete plans for as many tows down and up, the smallest list first.
func allPlans(downs, ups int) [][]api.LockStep {
	if downs+ups == 0 {
		return [][]api.LockStep{nil}
	}
	var all [][]api.LockStep
	add := func(first api.LockStep, rest [][]api.LockStep) {
		for _, plan := range rest {
			all = append(all, append(steps(first), plan...))
		}
	}
	for n := 1; n <= downs; n++ {
		add(down(n), allPlans(downs-n, ups))
	}
	for n := 1; n <= ups; n++ {
		add(up(n), allPlans(downs, ups-n))
	}
	return all
}

// measured is a plan with what it costs, its movements and the water that it takes from the upper reach.
type measured struct {
	plan              []api.LockStep
	cost, moves, uses int
}

// measure returns all complete plans without an error, the smallest list first.
func measure(l api.Lock, tows []api.LockTow) []measured {
	var list []measured
	n := tally(tows)
	for _, plan := range allPlans(n[0], n[1]) {
		_, cost, moves, e := lock.Run(l, tows, plan)
		w, f := lock.Water(l, tows, plan)
		if e == api.OK && f == api.OK {
			list = append(list, measured{plan, cost, moves, -w.Upper})
		}
	}
	return list
}

// least returns the first plan with the smallest list of numbers.
func least(list []measured, numbers func(m measured) []int) measured {
	return slices.MinFunc(list, func(a, b measured) int { return slices.Compare(numbers(a), numbers(b)) })
}

// P4.4, P4.5 and P4.8: no other plan is better than those of Best and Thrift, of all that are complete.
func TestNoBetterPlan(t *testing.T) {
	d, none, other, ties := newDice(42), 0, 0, 0
	for range 1000 {
		l := d.lock()
		tows := d.tows(l, d.from(0, 7))
		if d.Intn(4) == 0 {
			tows = light(tows...)
		}
		list := measure(l, tows)
		want := least(list, func(m measured) []int { return []int{m.cost, m.moves} })
		plan, cost, e := lock.Best(l, tows)
		if !slices.Equal(plan, want.plan) || cost != want.cost || e != api.OK {
			t.Fatalf("%v, %v: %v, %d, error %d; not %v", l, tows, plan, cost, e, want)
		}
		worse := func(m measured) bool { return m.cost != want.cost || m.moves != want.moves }
		if len(slices.DeleteFunc(slices.Clone(list), worse)) > 1 {
			ties++
		}
		most := cost + d.from(-10, 100)
		cheap := slices.DeleteFunc(list, func(m measured) bool { return m.cost > most })
		plan, cost, e = lock.Thrift(l, tows, most)
		if len(cheap) == 0 {
			none++
			expect(t, "no plan", outcomeOf(e, plan, cost), api.ErrNone)
			continue
		}
		thrifty := least(cheap, func(m measured) []int { return []int{m.uses, m.cost, m.moves} })
		if !slices.Equal(plan, thrifty.plan) || cost != thrifty.cost || e != api.OK {
			t.Fatalf("%v, %v, %d: %v, %d, error %d; not %v", l, tows, most, plan, cost, e, thrifty)
		}
		if !slices.Equal(plan, want.plan) {
			other++
		}
	}
	if none < 5 || none > 300 || other < 50 || ties < 20 {
		t.Errorf("of 1000, %d have no thrifty plan, %d another one, %d several best ones", none, other, ties)
	}
}

// P4.8: what the cost of Thrift has to do with that of Best.
func TestThriftAndBest(t *testing.T) {
	d := newDice(43)
	for range 200 {
		l := d.lock()
		tows := d.tows(l, d.from(0, 8))
		_, cost, e := lock.Best(l, tows)
		if e != api.OK {
			t.Fatal(e)
		}
		for _, most := range []int{cost, cost + 1, cost + 50, cost + 1000} {
			plan, thrifty, e := lock.Thrift(l, tows, most)
			if thrifty < cost || thrifty > most || e != api.OK {
				t.Fatalf("cost %d, best %d, most %d, error %d", thrifty, cost, most, e)
			}
			if _, real, _, e := lock.Run(l, tows, plan); real != thrifty || e != api.OK {
				t.Fatalf("%v costs %d, not %d; error %d", plan, real, thrifty, e)
			}
		}
		expect(t, "cheaper than the best", thrift(l, tows, cost-1), api.ErrNone)
	}
}
