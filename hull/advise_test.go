package hull_test

import (
	"reflect"
	"slices"
	"testing"

	"thalweg/api"
	"thalweg/hull"
)

// still returns a passage with this least depth, which it has in the hour 2 of the pass 1.
func still(depth int) api.Passage {
	way := []api.Pass{pass(3, 0, 0), pass(3, 1, 2)}
	return canal(0, way, to(999, 999), to(depth+1, depth+1), to(depth, depth))
}

// limited returns the hull of the examples with a section that must not lie deeper than some centimeters.
func limited(draft int) api.Hull {
	h := example()
	h.Sections[0].Curve = []api.HullRow{row(0, 0), row(draft, 3*draft)}
	return h
}

// tender returns a hull that a moment trims ten times as much as the hull of the examples.
func tender(h api.Hull) api.Hull {
	h.Sections[0].Trim, h.Sections[1].Trim = 5, 5
	return h
}

// heavy returns the hull of the examples with a fore end that is as heavy as if there were two lots more in its hold.
func heavy() api.Hull {
	h := example()
	h.Sections[0].Light = 300
	return h
}

// threeHolds returns the hull of the examples with one hold more, at the fore end.
func threeHolds() api.Hull {
	h := example()
	h.Sections[0].Holds = []api.HullHold{at(15, 4), at(0, 4)}
	return h
}

// withRoom returns the hull of the examples with other room in both holds.
func withRoom(a, b int) api.Hull {
	h := example()
	h.Sections[0].Holds[0].Lots, h.Sections[1].Holds[0].Lots = a, b
	return h
}

// P2.5 and example 3: each cause, and which of several loads is meant. From 0 lots on, the least deep drafts of the hull of
// the examples are 34, 58, 67, 92, 100, 125, 134, 158, 167; those of the heavy one are 82, 92, 100, 125, 134 and more.
func TestAdvise(t *testing.T) {
	river := func(load ...int) api.HullAdvice {
		return api.HullAdvice{Load: load, Lots: sum(load), Cause: api.HullRiver, Pass: 1, Hour: 2}
	}
	other := func(cause api.HullCause, load ...int) api.HullAdvice {
		return api.HullAdvice{Load: load, Lots: sum(load), Cause: cause}
	}
	for name, c := range map[string]struct {
		h    api.Hull
		p    api.Passage
		want api.HullAdvice
	}{
		"example 3":            {example(), passage(), other(api.HullRiver, 0, 1)},
		"pass and hour":        {example(), still(67), river(1, 1)},
		"less deep":            {example(), still(66), river(0, 1)},
		"least deep":           {example(), still(34), river(0, 0)},
		"one lot is left":      {example(), still(166), river(3, 4)},
		"all holds full":       {example(), still(167), other(api.HullFull, 4, 4)},
		"unequal holds":        {withRoom(1, 2), still(92), other(api.HullFull, 1, 2)},
		"unequal holds, river": {withRoom(1, 2), still(91), river(1, 1)},
		"no holds":             {long(30, 30), still(34), other(api.HullFull)},
		"holds for no lots":    {withRoom(0, 0), still(34), other(api.HullFull, 0, 0)},
		"limit of the hull":    {limited(80), still(500), other(api.HullSinks, 1, 1)},
		"limit and river":      {limited(80), still(67), other(api.HullSinks, 1, 1)},
		"river before limit":   {limited(80), still(66), river(0, 1)},
		"least limit":          {limited(34), still(500), other(api.HullSinks, 0, 0)},
		"just more floats":     {limited(92), still(91), river(1, 1)},
		"just more sinks":      {limited(91), still(91), other(api.HullSinks, 1, 1)},
		"more than one floats": {tender(limited(150)), still(80), other(api.HullSinks, 1, 1)},
		"steady aft":           {heavy(), still(100), river(0, 2)},
		"steady in between":    {heavy(), still(134), river(1, 3)},
		"smallest list":        {heavy(), still(125), river(0, 3)},
		"safe by its load":     {tender(heavy()), still(100), river(0, 2)},
		"three holds, 1 lot":   {threeHolds(), still(58), river(0, 0, 1)},
		"three holds, 2 lots":  {threeHolds(), still(83), river(1, 0, 1)},
		"three holds, 3 lots":  {threeHolds(), still(84), river(0, 1, 2)},
	} {
		got, e := hull.Advise(c.h, to(1000, 1000), c.p)
		if !sameAdvice(got, c.want) || e != api.OK {
			t.Errorf("%s: %+v, error %d", name, got, e)
		}
	}
}

// P2.5: the load must be safe at each density: with 2 lots the hull lies up to 75, with 1 lot up to 64 centimeters deep.
func TestAdviseDensities(t *testing.T) {
	for depth, load := range map[int][]int{75: {1, 1}, 74: {0, 1}, 64: {0, 1}, 63: {0, 0}} {
		if got, e := hull.Advise(example(), to(900, 1000), still(depth)); !slices.Equal(got.Load, load) || e != api.OK {
			t.Errorf("%d: %+v, error %d", depth, got, e)
		}
	}
}

// P2.5: Keel is left under the hull.
func TestAdviseKeel(t *testing.T) {
	for keel, load := range map[int][]int{33: {1, 1}, 34: {0, 1}, 42: {0, 1}, 43: {0, 0}, 66: {0, 0}} {
		p := still(100)
		p.Keel = keel
		if got, e := hull.Advise(example(), to(1000, 1000), p); !slices.Equal(got.Load, load) || e != api.OK {
			t.Errorf("keel %d: %+v, error %d", keel, got, e)
		}
	}
}

// sum returns the sum of numbers.
func sum(list []int) int {
	total := 0
	for _, n := range list {
		total += n
	}
	return total
}

// sameAdvice reports whether two pieces of advice are the same; a nil load is an empty one.
func sameAdvice(a, b api.HullAdvice) bool {
	same := slices.Equal(a.Load, b.Load)
	a.Load, b.Load = nil, nil
	return same && reflect.DeepEqual(a, b)
}

// P2.5: the errors of a density and of a passage come in their order, and the last one is that there is no safe load.
func TestAdviseErrors(t *testing.T) {
	sinks := example()
	sinks.Sections[1].Light = 10000
	for name, c := range map[string]struct {
		h       api.Hull
		density api.Bounds
		p       api.Passage
		e       api.Errno
	}{
		"too light":           {example(), to(899, 1000), api.Passage{Keel: -1}, api.ErrArg},
		"too heavy":           {example(), to(1000, 1101), api.Passage{Keel: -1}, api.ErrArg},
		"upside down":         {example(), to(1001, 1000), passage(), api.ErrArg},
		"all densities":       {example(), to(900, 1100), passage(), api.OK},
		"keel":                {sinks, to(1000, 1000), api.Passage{Keel: -1}, api.ErrRange},
		"river":               {sinks, to(1000, 1000), api.Passage{}, api.ErrArg},
		"way":                 {sinks, to(1000, 1000), canal(0, nil, to(0, 0)), api.ErrForm},
		"sinks":               {sinks, to(1000, 1000), deep(), api.ErrState},
		"too shallow":         {example(), to(1000, 1000), still(33), api.ErrState},
		"possibly is too few": {example(), to(1000, 1000), canal(0, []api.Pass{{}}, to(33, 1000)), api.ErrState},
		"no holds":            {long(30, 30), to(1000, 1000), still(33), api.ErrState},
	} {
		expect(t, name, call{c.h, nil, c.density, c.p}.advise(), c.e)
	}
}

// bestLoad returns the advice that the chapter describes, from all loads one by one, and whether there is any.
func bestLoad(h api.Hull, density api.Bounds, p api.Passage) (best api.HullAdvice, found bool) {
	least := 0
	for _, load := range allLoads(h) {
		surely, _, pass, hour, e := hull.Safe(h, load, density, p)
		if e != api.OK || !surely {
			continue
		}
		_, moment := weights(h, load)
		moment = max(moment, -moment)
		if lots := sum(load); !found || lots > best.Lots || lots == best.Lots && moment < least {
			best, least, found = api.HullAdvice{Load: load, Lots: lots, Cause: api.HullSinks, Pass: pass, Hour: hour}, moment, true
		}
	}
	room := 0
	for _, x := range storage(h) {
		room += x.Lots
	}
	if best.Lots == room {
		best.Cause = api.HullFull
	}
	for _, load := range allLoads(h) {
		if _, e := hull.Float(h, load, density); e == api.OK && sum(load) == best.Lots+1 {
			best.Cause = api.HullRiver
		}
	}
	if best.Cause != api.HullRiver {
		best.Pass, best.Hour = 0, 0
	}
	return best, found
}

// P2.5 and P2.11: the advice is what a search through all loads finds: no load with more lots is safe.
func TestAdviseIsBest(t *testing.T) {
	d, causes, none, steps := newDice(6), map[api.HullCause]int{}, 0, 0
	for range 1500 {
		h, p, density := d.hull(d.from(1, 4), 3), d.passage(300), d.density()
		want, found := bestLoad(h, density, p)
		got, e := hull.Advise(h, density, p)
		if !found {
			none++
			if e != api.ErrState || !reflect.DeepEqual(got, api.HullAdvice{}) {
				t.Fatalf("%v on %v: %+v, error %d", h, p, got, e)
			}
			continue
		}
		if !sameAdvice(got, want) || e != api.OK {
			t.Fatalf("%v on %v: %+v, not %+v; error %d", h, p, got, want, e)
		}
		causes[got.Cause]++
		if got.Lots > 0 && got.Cause != api.HullFull {
			steps++
		}
	}
	if none < 50 || causes[api.HullFull] < 50 || causes[api.HullRiver] < 50 || causes[api.HullSinks] < 50 || steps < 50 {
		t.Errorf("too few of a kind: none %d, causes %v, between empty and full %d", none, causes, steps)
	}
}

// lots returns the number of lots of an advice, or -1 if there is none.
func lots(h api.Hull, density api.Bounds, p api.Passage) int {
	a, e := hull.Advise(h, density, p)
	if e != api.OK {
		return -1
	}
	return a.Lots
}

// P2.11: with more Keel, or another pass, there are not more lots; with more room in a hold not fewer.
func TestAdviseMore(t *testing.T) {
	d, fewer, more := newDice(7), 0, 0
	for range 1500 {
		h, p, density := d.hull(d.from(1, 4), 3), d.passage(300), d.density()
		n := lots(h, density, p)
		keel, way := p, p
		keel.Keel += d.from(1, 40)
		way.Way = append(slices.Clone(p.Way), api.Pass{Place: d.from(0, 5), Hours: d.bounds(0, len(p.Sides[0])-1)})
		if a, b := lots(h, density, keel), lots(h, density, way); a > n || b > n {
			t.Fatalf("%d lots, with more keel %d, with one pass more %d", n, a, b)
		} else if a < n || b < n {
			fewer++
		}
		part := d.from(0, len(h.Sections)-1)
		if holds := h.Sections[part].Holds; len(holds) > 0 {
			holds[0].Lots += d.from(1, 3)
			if m := lots(h, density, p); m < n {
				t.Fatalf("%d lots, with more room %d", n, m)
			} else if m > n {
				more++
			}
		}
	}
	if fewer < 50 || more < 50 {
		t.Errorf("fewer %d times, more %d times", fewer, more)
	}
}

// P2.5: the greatest hull has 194481 loads.
func TestAdviseGreatest(t *testing.T) {
	h := api.Hull{Lot: 1000}
	for range 4 {
		x := section()
		x.Length, x.Light = 50, 10000
		x.Curve[2] = row(1000, 100000)
		x.Holds = []api.HullHold{at(25, 20)}
		h.Sections = append(h.Sections, x)
	}
	if got, e := hull.Advise(h, to(1000, 1000), deep()); e != api.OK || !sameAdvice(got, api.HullAdvice{Load: []int{20, 20, 20, 20}, Lots: 80}) {
		t.Errorf("%+v, error %d", got, e)
	}
}
