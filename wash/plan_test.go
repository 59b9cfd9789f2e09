package wash_test

import (
	"slices"
	"testing"

	"thalweg/api"
	"thalweg/wash"
)

// P5.7, P5.8 and example 4: the fewest cleanings, of these the least cost, of these the smallest list.
func TestPlan(t *testing.T) {
	for name, x := range map[string]struct {
		r              api.WashRules
		l              []api.TankEvent
		jobs           []int
		washes, fewest []int
		cost           int
	}{
		"no cargoes":                     {example(), events(load(0)), nil, nil, nil, 0},
		"example 4":                      {example(), events(load(0)), []int{2, 1}, []int{1, -1}, []int{1, 1}, 90000},
		"a clean tank":                   {example(), nil, []int{1}, []int{-1}, []int{0}, 0},
		"the same ten times":             {example(), nil, slices.Repeat([]int{0}, 10), slices.Repeat([]int{-1}, 10), make([]int, 10), 0},
		"cleaned each time":              {single(0, kind(100, 7)), nil, slices.Repeat([]int{0}, 10), append([]int{-1}, slices.Repeat([]int{0}, 9)...), []int{0, 1, 2, 3, 4, 5, 6, 7, 8, 9}, 63},
		"the cheaper kind":               {single(50, kind(60, 9), kind(50, 3), kind(49, 1)), events(load(0)), []int{0}, []int{1}, []int{1}, 3},
		"fewer before cheaper":           {late(40), events(load(0)), []int{1, 2}, []int{-1, 1}, []int{0, 1}, 900},
		"the first kind of the same":     {single(50, kind(40, 5), kind(60, 5), kind(50, 5)), events(load(0)), []int{0}, []int{1}, []int{1}, 5},
		"none before a kind":             {late(90), events(load(0)), []int{1, 2}, []int{-1, 0}, []int{0, 1}, 1},
		"a kind without cost is counted": {single(100, kind(100, 0)), events(load(0)), []int{0}, []int{-1}, []int{0}, 0},
		"kinds before it do not matter":  {single(0, kind(100, 7)), events(load(0), clean(0)), []int{0}, []int{-1}, []int{0}, 0},
	} {
		washes, cost, at, e := wash.Plan(x.r, x.l, x.jobs)
		if !slices.Equal(washes, x.washes) || cost != x.cost || at != 0 || e != api.OK {
			t.Errorf("%s: %v, cost %d, at %d, error %d", name, washes, cost, at, e)
		}
		fewest, at, e := wash.Fewest(x.r, x.l, x.jobs)
		if !slices.Equal(fewest, x.fewest) || at != 0 || e != api.OK {
			t.Errorf("%s: %v, at %d, error %d", name, fewest, at, e)
		}
	}
}

// late returns rules by which cargo 1 can be carried with all that is left of cargo 0, and cargo 2 with some of it. Kind 0 cleans a little for the cost 1, kind 1 all for 900.
func late(allow int) api.WashRules {
	return api.WashRules{
		Levels: []int{100, 0, 0}, Allow: [][]int{{100, 100, allow}, {0, 0, 0}, {0, 0, 0}}, Apart: square(3, 0),
		Kinds: []api.WashKind{kind(30, 1), kind(100, 900)},
	}
}

// P5.7: the list for some cargoes need not begin with the list for fewer of them; Fewest tells the cleanings of each list.
func TestPlansDiffer(t *testing.T) {
	// Before cargo 1 a little cleaning is enough, but before cargo 2 the tank must be quite clean: one cleaning is enough for both, if it is the strong one.
	r := late(0)
	r.Allow[0][1] = 70
	l := events(load(0))
	for jobs, want := range map[int][]int{1: {0}, 2: {1, -1}} {
		washes, _, _, e := wash.Plan(r, l, []int{1, 2}[:jobs])
		if !slices.Equal(washes, want) || e != api.OK {
			t.Errorf("%d cargoes: %v, error %d", jobs, washes, e)
		}
	}
	if fewest, _, e := wash.Fewest(r, l, []int{1, 2}); !slices.Equal(fewest, []int{1, 1}) || e != api.OK {
		t.Errorf("%v, error %d", fewest, e)
	}
}

// P5.7, P5.8 and example 4: ErrNone if there is no list, with the first cargo for which there is none.
func TestNoPlan(t *testing.T) {
	distant := changed(func(r *api.WashRules) { r.Apart[2][2] = 1 })
	for name, x := range map[string]struct {
		r    api.WashRules
		l    []api.TankEvent
		jobs []int
		at   int
	}{
		"example 4":          {example(), events(load(0)), []int{1}, 0},
		"the second cargo":   {example(), nil, []int{0, 1, 1, 1}, 1},
		"the last cargo":     {distant, nil, []int{0, 2, 0, 2, 0, 2, 0, 2, 2}, 8},
		"the last of ten":    {distant, nil, []int{0, 0, 2, 0, 2, 0, 2, 0, 2, 2}, 9},
		"kinds are too weak": {single(0, kind(99, 0)), nil, []int{0, 0, 0}, 1},
		"no kinds":           {single(99), nil, []int{0, 0}, 1},
		"surely, not only possibly": {
			single(0, api.WashKind{Power: to(99, 100)}), nil, []int{0, 0}, 1,
		},
		"at most one cleaning each": {single(0, kind(50, 0), kind(50, 0)), events(load(0)), []int{0}, 0},
	} {
		washes, cost, at, e := wash.Plan(x.r, x.l, x.jobs)
		if len(washes) != 0 || cost != 0 || at != x.at || e != api.ErrNone {
			t.Errorf("%s: %v, cost %d, at %d, error %d", name, washes, cost, at, e)
		}
		washes, at, e = wash.Fewest(x.r, x.l, x.jobs)
		if len(washes) != 0 || at != x.at || e != api.ErrNone {
			t.Errorf("%s: %v, at %d, error %d", name, washes, at, e)
		}
	}
}

// comparePlan compares the results of Plan and Fewest with the answers that all lists give, and returns the one for all cargoes.
func comparePlan(t *testing.T, r api.WashRules, l []api.TankEvent, jobs []int) answer {
	want := bruteForce(r, histories(l), jobs)
	var kinds []int
	for _, s := range want.steps {
		kinds = append(kinds, s.Wash)
	}
	if want.e == api.OK {
		want.at = 0
	}
	washes, cost, at, e := wash.Plan(r, l, jobs)
	if !slices.Equal(washes, kinds) || cost != want.cost || at != want.at || e != want.e {
		t.Fatalf("%v, %v, %v: %v, cost %d, at %d, error %d, not %v", r, l, jobs, washes, cost, at, e, want)
	}
	fewest, at, e := wash.Fewest(r, l, jobs)
	if at != want.at || e != want.e || e != api.OK && len(fewest) > 0 {
		t.Fatalf("%v, %v, %v: %v, at %d, error %d", r, l, jobs, fewest, at, e)
	}
	for j, n := range fewest {
		if part := bruteForce(r, histories(l), jobs[:j+1]); n != part.washes {
			t.Fatalf("%v, %v, %v: %v", r, l, jobs, fewest)
		}
	}
	return want
}

// P5.7 and P5.8: Plan and Fewest against all lists of cleanings.
func TestAllPlans(t *testing.T) {
	d, none, equal, cleaned, weak := newDice(3), 0, 0, 0, 0
	for range 12000 {
		r := d.rules(4, 3)
		want := comparePlan(t, r, d.history(r, 5), d.jobs(r, d.from(0, 5)))
		switch {
		case want.e != api.OK:
			none++
		case want.equal > 1:
			equal++
		}
		if want.washes > 1 {
			cleaned++
			if slices.ContainsFunc(want.steps, func(s api.WashStep) bool { return s.Wash > 0 && s.Wash != want.steps[0].Wash }) {
				weak++
			}
		}
	}
	if none < 300 || equal < 300 || cleaned < 300 || weak < 100 {
		t.Errorf("only %d without a plan, %d with equal ones, %d with some cleanings, %d with several kinds", none, equal, cleaned, weak)
	}
}

// P5.7 and P5.8: ten cargoes, with all cargoes and kinds that there can be.
func TestLongPlans(t *testing.T) {
	d, planned := newDice(4), 0
	for planned < 40 {
		r := d.rules(8, 4)
		l, jobs := d.history(r, 20), d.jobs(r, 10)
		if washes, _, e := wash.Fewest(r, l, jobs); e == api.OK && washes[9] > 2 && len(r.Kinds) < 3 {
			planned++
			comparePlan(t, r, l, jobs)
		}
	}
}
