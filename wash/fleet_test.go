package wash_test

import (
	"slices"
	"testing"

	"thalweg/api"
	"thalweg/wash"
)

// P5.9 and example 5: the tanks and the cleanings with the fewest cleanings, of these the least cost, of these the smallest list.
func TestFleet(t *testing.T) {
	used := events(load(0))
	for name, x := range map[string]struct {
		r     api.WashRules
		tanks [][]api.TankEvent
		jobs  []int
		steps []api.WashStep
		cost  int
	}{
		"example 5":              {example(), histories(used, events(load(1))), []int{2, 1}, steps(step(0, 1), step(0, -1)), 90000},
		"no cargoes":             {example(), histories(used, nil), nil, nil, 0},
		"the clean tank":         {example(), histories(used, used, nil), []int{1}, steps(step(2, -1)), 0},
		"the first clean tank":   {example(), histories(used, nil, nil), []int{1}, steps(step(1, -1)), 0},
		"one tank each":          {single(0, kind(100, 5)), histories(nil, nil, nil), []int{0, 0, 0}, steps(step(0, -1), step(1, -1), step(2, -1)), 0},
		"more than tanks":        {single(0, kind(100, 5)), histories(nil, nil), []int{0, 0, 0, 0}, steps(step(0, -1), step(0, 0), step(0, 0), step(1, -1)), 10},
		"the cheaper tank":       {single(50, kind(10, 1), kind(100, 5)), histories(used, events(load(0), clean(0), clean(0), clean(0), clean(0))), []int{0}, steps(step(1, 0)), 1},
		"all six in three":       {single(100), histories(used, used, used), slices.Repeat([]int{0}, 6), slices.Repeat(steps(step(0, -1)), 6), 0},
		"fewer, though not less": {late(0), histories(used, events(load(0), clean(0), clean(0), clean(0))), []int{1, 2}, steps(step(0, -1), step(1, 0)), 1},
	} {
		list, cost, at, e := wash.Fleet(x.r, x.tanks, x.jobs)
		if !slices.Equal(list, x.steps) || cost != x.cost || at != 0 || e != api.OK {
			t.Errorf("%s: %v, cost %d, at %d, error %d", name, list, cost, at, e)
		}
	}
}

// P5.9: ErrNone if there is no list, with the first cargo for which there is none.
func TestNoFleet(t *testing.T) {
	distant := changed(func(r *api.WashRules) { r.Apart[0] = []int{1, 1, 1} })
	used := events(load(0))
	for name, x := range map[string]struct {
		r     api.WashRules
		tanks [][]api.TankEvent
		jobs  []int
		at    int
	}{
		"all tanks are used":    {distant, histories(used, used, used), []int{0}, 0},
		"each tank is used":     {distant, histories(nil, nil, nil), []int{0, 0, 0, 0, 0}, 3},
		"the last one of six":   {distant, histories(nil, nil, used), []int{2, 2, 2, 0, 0, 0}, 5},
		"the first list is bad": {distant, histories(used, nil), []int{0, 1, 2}, 1},
	} {
		list, cost, at, e := wash.Fleet(x.r, x.tanks, x.jobs)
		if len(list) != 0 || cost != 0 || at != x.at || e != api.ErrNone {
			t.Errorf("%s: %v, cost %d, at %d, error %d", name, list, cost, at, e)
		}
	}
}

// P5.9: Fleet against all lists of steps.
func TestAllFleets(t *testing.T) {
	d, none, equal, cleaned := newDice(5), 0, 0, 0
	for range 8000 {
		r := d.rules(4, 2)
		tanks := d.histories(r, d.from(1, 3), 5)
		jobs := d.jobs(r, d.from(0, 4))
		want := bruteForce(r, tanks, jobs)
		if want.e == api.OK {
			want.at = 0
		}
		list, cost, at, e := wash.Fleet(r, tanks, jobs)
		if !slices.Equal(list, want.steps) || cost != want.cost || at != want.at || e != want.e {
			t.Fatalf("%v, %v, %v: %v, cost %d, at %d, error %d, not %v", r, tanks, jobs, list, cost, at, e, want)
		}
		switch {
		case e != api.OK:
			none++
		case want.equal > 1:
			equal++
		}
		if want.washes > 1 {
			cleaned++
		}
	}
	if none < 200 || equal < 200 || cleaned < 200 {
		t.Errorf("only %d without a list, %d with equal ones, %d with some cleanings", none, equal, cleaned)
	}
}

// P5.9: six cargoes, with all cargoes that there can be.
func TestLongFleets(t *testing.T) {
	d, planned := newDice(6), 0
	for planned < 20 {
		r := d.rules(8, 1)
		tanks, jobs := d.histories(r, 3, 20), d.jobs(r, 6)
		if list, cost, _, e := wash.Fleet(r, tanks, jobs); e == api.OK && cost > 1 {
			planned++
			if want := bruteForce(r, tanks, jobs); !slices.Equal(list, want.steps) || cost != want.cost {
				t.Fatalf("%v, %v, %v: %v, cost %d, not %v", r, tanks, jobs, list, cost, want)
			}
		}
	}
}

// P5.10: the first cargo that is not surely acceptable, or -1, and then the cleanings and their cost.
func TestVerify(t *testing.T) {
	tanks, jobs := histories(events(load(0)), events(load(1))), []int{2, 1}
	for name, x := range map[string]struct {
		steps            []api.WashStep
		at, washes, cost int
	}{
		"example 5":                {steps(step(0, 1), step(0, -1)), -1, 1, 90000},
		"cleaned twice":            {steps(step(0, 1), step(0, 0)), -1, 2, 110000},
		"cleaned for nothing":      {steps(step(1, 1), step(1, 1)), -1, 2, 180000},
		"not cleaned":              {steps(step(0, -1), step(0, -1)), 0, 0, 0},
		"not cleaned enough":       {steps(step(0, 0), step(0, 1)), 0, 0, 0},
		"both not acceptable":      {steps(step(0, -1), step(0, 1)), 0, 0, 0},
		"too close to cargo 0":     {steps(step(1, 1), step(0, 1)), 1, 0, 0},
		"the second one is bad":    {steps(step(1, 1), step(0, -1)), 1, 0, 0},
		"the other tank, same now": {steps(step(1, 1), step(1, -1)), -1, 1, 90000},
	} {
		at, washes, cost, e := wash.Verify(example(), tanks, jobs, x.steps)
		if at != x.at || washes != x.washes || cost != x.cost || e != api.OK {
			t.Errorf("%s: at %d, %d cleanings, cost %d, error %d", name, at, washes, cost, e)
		}
	}
	// 0 is possibly acceptable after L0 W0, but not surely.
	at, _, _, e := wash.Verify(single(60, api.WashKind{Power: to(30, 40)}), histories(events(load(0))), []int{0}, steps(step(0, 0)))
	if at != 0 || e != api.OK {
		t.Errorf("at %d, error %d", at, e)
	}
}

// P5.10: any steps, carried out one by one.
func TestAllSteps(t *testing.T) {
	d, good, bad := newDice(7), 0, 0
	for range 5000 {
		r := d.rules(5, 3)
		tanks := d.histories(r, d.from(1, 3), 5)
		jobs := d.jobs(r, d.from(0, 6))
		list := d.steps(r, len(tanks), len(jobs))
		var vats []vat
		for _, l := range tanks {
			vats = append(vats, foul(r, l...))
		}
		want := [3]int{-1, 0, 0}
		for i, s := range list {
			v := vats[s.Tank]
			if s.Wash >= 0 {
				v = v.follow(r, clean(s.Wash), r.Kinds[s.Wash].Power.Low)
				want[1]++
				want[2] += r.Kinds[s.Wash].Cost
			}
			if !v.accepts(r, jobs[i]) {
				want = [3]int{i, 0, 0}
				break
			}
			vats[s.Tank] = v.follow(r, load(jobs[i]), r.Fade.Low)
		}
		at, washes, cost, e := wash.Verify(r, tanks, jobs, list)
		if [3]int{at, washes, cost} != want || e != api.OK {
			t.Fatalf("%v, %v, %v, %v: at %d, %d cleanings, cost %d, error %d, not %v", r, tanks, jobs, list, at, washes, cost, e, want)
		}
		if at < 0 {
			good++
		} else if at > 0 {
			bad++
		}
	}
	if good < 500 || bad < 500 {
		t.Errorf("only %d that are accepted, and %d that are not at last", good, bad)
	}
}
