package wash_test

import (
	"math"
	"reflect"
	"slices"
	"testing"

	"thalweg/api"
	"thalweg/wash"
)

// R4: no argument is changed.
func TestArgumentsStay(t *testing.T) {
	r := example()
	history := func() []api.TankEvent { return events(load(0), clean(0), load(2), clean(1), load(1)) }
	l, jobs, plan := history(), []int{2, 1, 0}, steps(step(1, 1), step(0, -1), step(1, 0))
	tanks := histories(l, history())
	wash.Check(r)
	wash.Residues(r, l)
	wash.May(r, l, 1)
	wash.Audit(r, l)
	wash.Slops(r, l)
	wash.Bill(r, l)
	wash.Plan(r, l, jobs)
	wash.Fewest(r, l, jobs)
	wash.Fleet(r, tanks, jobs)
	wash.Verify(r, tanks, jobs, plan)
	if !reflect.DeepEqual(r, example()) {
		t.Errorf("the rules were changed: %v", r)
	}
	if !reflect.DeepEqual(tanks, histories(history(), history())) {
		t.Errorf("a history was changed: %v", tanks)
	}
	if !slices.Equal(jobs, []int{2, 1, 0}) || !slices.Equal(plan, steps(step(1, 1), step(0, -1), step(1, 0))) {
		t.Errorf("cargoes or steps were changed: %v, %v", jobs, plan)
	}
}

// A result is new memory: to write into it changes neither another list of the result nor a later call.
func TestResultsAreNew(t *testing.T) {
	r, l := example(), events(load(0), clean(0), load(2), clean(1))
	for range 2 {
		residues, _ := wash.Residues(r, l)
		breaches, _ := wash.Audit(r, l)
		slops, _ := wash.Slops(r, l)
		washes, _, _, _ := wash.Plan(r, l[:1], []int{2, 1})
		fewest, _, _ := wash.Fewest(r, l[:1], []int{2, 1})
		list, _, _, _ := wash.Fleet(r, histories(l[:1]), []int{2, 1})
		if !slices.Equal(residues, []api.Bounds{at(0), at(0), at(0)}) || !slices.Equal(breaches, []api.WashBreach{{Event: 2, Cargo: 0, Sure: true}}) {
			t.Errorf("%v, %v", residues, breaches)
		}
		if !slices.Equal(washes, []int{1, -1}) || !slices.Equal(fewest, []int{1, 1}) || !slices.Equal(list, steps(step(0, 1), step(0, -1))) {
			t.Errorf("%v, %v, %v", washes, fewest, list)
		}
		_ = append(slops[0], 7)
		if !slices.EqualFunc(slops, [][]int{{0}, {0, 2}}, slices.Equal) {
			t.Errorf("the lists of Slops share memory: %v", slops)
		}
		residues[0], breaches[0], slops[1][0], washes[0], fewest[0], list[0] = at(-1), api.WashBreach{}, 9, 9, 9, step(9, 9)
	}
	if !reflect.DeepEqual(r, example()) || !slices.Equal(l, events(load(0), clean(0), load(2), clean(1))) {
		t.Errorf("an argument was changed: %v, %v", r, l)
	}
}

// R3: nil and empty lists are the same.
func TestNilIsEmpty(t *testing.T) {
	r := least()
	for _, kinds := range [][]api.WashKind{nil, {}} {
		r.Kinds = kinds
		for _, l := range [][]api.TankEvent{nil, {}} {
			expect(t, "Residues", residues(r, l), api.OK)
			surely, possibly, e := wash.May(r, l, 0)
			if !surely || !possibly || e != api.OK {
				t.Error(surely, possibly, e)
			}
			expect(t, "Audit", audit(r, l), api.OK)
			expect(t, "Slops", slops(r, l), api.OK)
			expect(t, "Bill", bill(r, l), api.OK)
			for _, jobs := range [][]int{nil, {}} {
				washes, cost, first, e := wash.Plan(r, l, jobs)
				fewest, second, f := wash.Fewest(r, l, jobs)
				list, sum, third, g := wash.Fleet(r, histories(l), jobs)
				if len(washes)+cost+first+len(fewest)+second+len(list)+sum+third != 0 || e != api.OK || f != api.OK || g != api.OK {
					t.Error(washes, cost, first, fewest, second, list, sum, third, e, f, g)
				}
				for _, none := range [][]api.WashStep{nil, {}} {
					if at, n, cost, e := wash.Verify(r, histories(l), jobs, none); at != -1 || n != 0 || cost != 0 || e != api.OK {
						t.Error(at, n, cost, e)
					}
				}
			}
		}
	}
	expect(t, "no tanks", fleet(r, histories(), nil), api.ErrForm)
	expect(t, "no tanks", verify(r, [][]api.TankEvent{}, nil, nil), api.ErrForm)
}

// P1: no function panics, or returns anything but zero values with an error, for the least and the greatest integers.
func TestExtremeNumbers(t *testing.T) {
	for _, n := range []int{math.MinInt, math.MinInt + 1, math.MaxInt - 1, math.MaxInt} {
		for name, change := range map[string]func(r *api.WashRules){
			"level":   func(r *api.WashRules) { r.Levels[1] = n },
			"fade":    func(r *api.WashRules) { r.Fade = at(n) },
			"wide":    func(r *api.WashRules) { r.Fade = to(min(n, 0), max(n, 0)) },
			"allow":   func(r *api.WashRules) { r.Allow[1][2] = n },
			"apart":   func(r *api.WashRules) { r.Apart[2][1] = n },
			"power":   func(r *api.WashRules) { r.Kinds[0].Power = at(n) },
			"minutes": func(r *api.WashRules) { r.Kinds[0].Minutes = n },
			"water":   func(r *api.WashRules) { r.Kinds[1].Water = n },
			"cost":    func(r *api.WashRules) { r.Kinds[1].Cost = n },
		} {
			if e := wash.Check(changed(change)); e != api.ErrArg {
				t.Errorf("%s: Check returns %d", name, e)
			}
			expectAll(t, name, changed(change), events(load(0)), api.ErrArg)
		}
		expectAll(t, "cargo", example(), events(load(n)), api.ErrArg)
		expectAll(t, "cleaning", example(), events(clean(n)), api.ErrArg)
		expectAll(t, "kind", example(), events(api.TankEvent{Kind: api.TankEventKind(n)}), api.ErrArg)
		expect(t, "May", may(example(), nil, n), api.ErrNone)
		expect(t, "Plan", plan(example(), nil, []int{n}), api.ErrArg)
		expect(t, "Fewest", fewest(example(), nil, []int{0, n}), api.ErrArg)
		expect(t, "Fleet", fleet(example(), histories(nil, nil), []int{0, n}), api.ErrArg)
		expect(t, "Verify", verify(example(), histories(nil, nil), []int{n}, steps(step(0, -1))), api.ErrArg)
		expect(t, "Verify", verify(example(), histories(nil, nil), []int{0}, steps(step(n, -1))), api.ErrArg)
		expect(t, "Verify", verify(example(), histories(nil, nil), []int{0}, steps(step(0, n))), api.ErrArg)
	}
}

// P5.7 and P5.9: the greatest numbers that are allowed have exact sums.
func TestGreatestCosts(t *testing.T) {
	r := great()
	r.Allow = square(8, 0)
	r.Apart = square(8, 0)
	r.Fade = at(0)
	washes, cost, _, e := wash.Plan(r, events(load(7)), slices.Repeat([]int{7}, 10))
	if !slices.Equal(washes, make([]int, 10)) || cost != 1000000000 || e != api.OK {
		t.Errorf("%v, cost %d, error %d", washes, cost, e)
	}
	used := events(load(7))
	list, cost, _, e := wash.Fleet(r, histories(used, used, used), slices.Repeat([]int{7}, 6))
	if !slices.Equal(list, make([]api.WashStep, 6)) || cost != 600000000 || e != api.OK {
		t.Errorf("%v, cost %d, error %d", list, cost, e)
	}
}

// P1: rules by which almost each list of steps leaves something else in the tanks need no long time.
func TestManyPlans(t *testing.T) {
	r := api.WashRules{Levels: slices.Repeat([]int{100000}, 8), Allow: square(8, 99999), Apart: square(8, 0)}
	for i, power := range []int{1000, 1001, 1010, 1100} {
		r.Kinds = append(r.Kinds, kind(power, power+i))
	}
	jobs := []int{0, 1, 2, 3, 4, 5, 6, 0, 1, 7}
	l := events(load(6), load(5))
	// Each cargo needs a cleaning, and only kind 0 is too weak for the last one.
	for p := range 7 {
		r.Allow[p][7] = 98999
	}
	washes, cost, _, e := wash.Plan(r, l, jobs)
	if !slices.Equal(washes, []int{0, 0, 0, 0, 0, 0, 0, 0, 0, 1}) || cost != 10002 || e != api.OK {
		t.Errorf("%v, cost %d, error %d", washes, cost, e)
	}
	list, cost, at, e := wash.Fleet(r, histories(l, l, l), []int{0, 1, 2, 3, 4, 7})
	if !slices.Equal(list, inOneTank([]int{0, 0, 0, 0, 0, 1})) || cost != 6002 || at != 0 || e != api.OK {
		t.Errorf("%v, cost %d, at %d, error %d", list, cost, at, e)
	}
	for p := range 7 {
		r.Allow[p][7] = 0
	}
	if _, _, at, e := wash.Fleet(r, histories(l, l, l), []int{0, 1, 2, 3, 4, 7}); at != 5 || e != api.ErrNone {
		t.Errorf("at %d, error %d", at, e)
	}
}
