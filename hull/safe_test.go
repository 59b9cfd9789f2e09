package hull_test

import (
	"testing"

	"thalweg/api"
	"thalweg/hull"
	"thalweg/river"
)

// P2.4 and example 3: what surely, and what possibly, takes the way, with as much water as is needed and one centimeter less.
func TestSafe(t *testing.T) {
	for name, c := range map[string]struct {
		load             []int
		density          api.Bounds
		keel             int
		surely, possibly bool
	}{
		"example 3":              {[]int{1, 1}, to(1000, 1000), 20, false, true},
		"the load of the advice": {[]int{0, 1}, to(1000, 1000), 20, true, true},
		"just surely":            {[]int{0, 1}, to(1000, 1000), 22, true, true},
		"just not surely":        {[]int{0, 1}, to(1000, 1000), 23, false, true},
		"just possibly":          {[]int{0, 1}, to(1000, 1000), 52, false, true},
		"not possibly":           {[]int{0, 1}, to(1000, 1000), 53, false, false},
		"without a keel":         {[]int{1, 1}, to(1000, 1000), 0, true, true},
		"greatest keel":          {[]int{0, 0}, to(1000, 1000), 500, false, false},
		"high end for surely":    {[]int{0, 0}, to(900, 1100), 42, true, true},
		"high end is too deep":   {[]int{0, 0}, to(900, 1100), 43, false, true},
		"low end for possibly":   {[]int{0, 0}, to(900, 1100), 79, false, true},
		"low end is too deep":    {[]int{0, 0}, to(900, 1100), 80, false, false},
	} {
		p := passage()
		p.Keel = c.keel
		surely, possibly, pass, hour, e := hull.Safe(example(), c.load, c.density, p)
		if surely != c.surely || possibly != c.possibly || pass != 0 || hour != 0 || e != api.OK {
			t.Errorf("%s: %t, %t, pass %d, hour %d, error %d", name, surely, possibly, pass, hour, e)
		}
	}
}

// P2.4: the pass and the hour are those of Shallowest, whether the hull can take the way or not.
func TestSafePlace(t *testing.T) {
	for name, c := range map[string]struct {
		way        []api.Pass
		pass, hour int
	}{
		"second pass":  {[]api.Pass{pass(120, 2, 3), pass(10, 1, 1)}, 1, 1},
		"last hour":    {[]api.Pass{pass(120, 1, 3)}, 0, 3},
		"first of two": {[]api.Pass{pass(140, 2, 3), pass(130, 0, 0)}, 0, 2},
	} {
		for keel, want := range map[int]bool{0: true, 500: false} {
			p := passage()
			p.Way, p.Keel = c.way, keel
			surely, possibly, pass, hour, e := hull.Safe(example(), []int{0, 0}, to(1000, 1000), p)
			if surely != want || possibly != want || pass != c.pass || hour != c.hour || e != api.OK {
				t.Errorf("%s, keel %d: %t, %t, pass %d, hour %d, error %d", name, keel, surely, possibly, pass, hour, e)
			}
		}
	}
}

// wrongPassages are changes that each give the passage of the examples an error, and the error.
var wrongPassages = map[string]struct {
	change func(p *api.Passage)
	e      api.Errno
}{
	"none":             {func(p *api.Passage) {}, api.OK},
	"keel 0":           {func(p *api.Passage) { p.Keel = 0 }, api.OK},
	"keel below 0":     {func(p *api.Passage) { p.Keel = -1 }, api.ErrRange},
	"keel 501":         {func(p *api.Passage) { p.Keel = 501 }, api.ErrRange},
	"keel first":       {func(p *api.Passage) { *p = api.Passage{Keel: 501} }, api.ErrRange},
	"no river":         {func(p *api.Passage) { *p = api.Passage{} }, api.ErrArg},
	"invalid river":    {func(p *api.Passage) { p.River.Reaches[1].Length = 0; p.Way, p.Sides = nil, nil }, api.ErrArg},
	"no forecast":      {func(p *api.Passage) { p.Sides, p.Way = nil, nil }, api.ErrForm},
	"empty forecast":   {func(p *api.Passage) { p.Sides = [][]api.Bounds{nil, nil} }, api.ErrForm},
	"long forecast":    {func(p *api.Passage) { p.Sides = [][]api.Bounds{make([]api.Bounds, 401), make([]api.Bounds, 401)} }, api.ErrLong},
	"invalid forecast": {func(p *api.Passage) { p.Sides[1][3] = to(2, 1); p.Way = nil }, api.ErrArg},
	"no way":           {func(p *api.Passage) { p.Way = nil }, api.ErrForm},
	"empty way":        {func(p *api.Passage) { p.Way = []api.Pass{} }, api.ErrForm},
	"60 passes":        {func(p *api.Passage) { p.Way = make([]api.Pass, 60) }, api.OK},
	"61 passes":        {func(p *api.Passage) { p.Way = make([]api.Pass, 61) }, api.ErrLong},
	"no such place":    {func(p *api.Passage) { p.Way[1] = pass(150, 9, 9) }, api.ErrNone},
	"hours too late":   {func(p *api.Passage) { p.Way[0].Hours.High = 4 }, api.ErrRange},
	"hours descend":    {func(p *api.Passage) { p.Way[1].Hours = to(3, 2); p.Way[0].Place = 10 }, api.ErrRange},
}

// P2.4, P2.5 and P2.6: the errors of a passage, in their order: Keel, the river, the forecast, the way.
func TestWrongPassages(t *testing.T) {
	for name, c := range wrongPassages {
		x := valid()
		c.change(&x.p)
		expect(t, name+": Safe", x.safe(), c.e)
		expect(t, name+": Advise", x.advise(), c.e)
		expect(t, name+": Later", x.later(), c.e)
	}
}

// trueDepths calls visit with the depths of a passage in a truth, at each pass in each of its hours; they are rounded down.
func trueDepths(d dice, p api.Passage, visit func(depth int)) {
	truth := api.River{}
	for _, x := range p.River.Reaches {
		x.Base, x.Bottom = d.choose(x.Base), d.choose(x.Bottom)
		truth.Reaches = append(truth.Reaches, x)
	}
	for _, x := range p.River.Shoals {
		x.Bed, x.Grow = d.choose(x.Bed), d.choose(x.Grow)
		truth.Shoals = append(truth.Shoals, x)
	}
	var water [][]api.Bounds
	for _, side := range p.Sides {
		var flows []api.Bounds
		for _, b := range side {
			flows = append(flows, d.choose(b))
		}
		water = append(water, flows)
	}
	for _, x := range p.Way {
		for hour := x.Hours.Low; hour <= x.Hours.High; hour++ {
			depth, _ := river.Depth(truth, water, x.Place, hour)
			visit(depth.Low)
		}
	}
}

// P2.10: a hull that surely can take a way never touches the ground, whatever is true; P2.4: and it possibly can take it.
func TestNeverTouchesGround(t *testing.T) {
	d, sure := newDice(3), 0
	for range 4000 {
		h, p := d.hull(d.from(1, 3), 4), d.passage(200)
		load, density := d.load(h), d.density()
		surely, possibly, _, _, e := hull.Safe(h, load, density, p)
		if e != api.OK || !surely {
			continue
		}
		sure++
		if !possibly {
			t.Fatalf("surely, but not possibly: %v with %v on %v", h, load, p)
		}
		for range 5 {
			_, draft, _ := trueDrafts(h, load, d.choose(density).Low)
			trueDepths(d, p, func(depth int) {
				if draft+p.Keel > depth {
					t.Fatalf("%v with %v: %d and %d over %d", h, load, draft, p.Keel, depth)
				}
			})
		}
	}
	if sure < 100 {
		t.Errorf("only %d surely took the way", sure)
	}
}

// P2.10: if a hull floats, but does not surely take the way, the depth where Safe says so may be too little.
func TestTouchesGround(t *testing.T) {
	d, unsure := newDice(4), 0
	for range 2000 {
		h, p := d.hull(d.from(1, 3), 4), d.passage(150)
		load, density := d.load(h), d.density()
		surely, _, pass, hour, e := hull.Safe(h, load, density, p)
		if e != api.OK || surely {
			continue
		}
		unsure++
		f, _ := hull.Float(h, load, density)
		depth, _ := river.Depth(p.River, p.Sides, p.Way[pass].Place, hour)
		hours := p.Way[pass].Hours
		if hour < hours.Low || hours.High < hour || depth.Low >= f.Deep.High+p.Keel {
			t.Fatalf("%v with %v: %v and %d in %v", h, load, f.Deep, p.Keel, depth)
		}
	}
	if unsure < 100 {
		t.Errorf("only %d did not surely take the way", unsure)
	}
}

// P2.4: Safe compares both ends of the deep draft with the ends of Shallowest.
func TestSafeIsShallowest(t *testing.T) {
	d, kinds := newDice(5), map[[2]bool]int{}
	for range 3000 {
		h, p := d.hull(d.from(1, 3), 4), d.passage(150)
		load, density := d.load(h), d.density()
		surely, possibly, pass, hour, e := hull.Safe(h, load, density, p)
		f, floatError := hull.Float(h, load, density)
		if e != floatError {
			t.Fatalf("error %d, of Float %d", e, floatError)
		}
		if e != api.OK {
			continue
		}
		least, wantPass, wantHour, _ := river.Shallowest(p.River, p.Sides, p.Way)
		kinds[[2]bool{surely, possibly}]++
		if surely != (f.Deep.High+p.Keel <= least.Low) || possibly != (f.Deep.Low+p.Keel <= least.High) || pass != wantPass || hour != wantHour {
			t.Fatalf("%t, %t, pass %d, hour %d: %v and %d in %v", surely, possibly, pass, hour, f.Deep, p.Keel, least)
		}
	}
	if kinds[[2]bool{true, true}] < 100 || kinds[[2]bool{false, true}] < 100 || kinds[[2]bool{false, false}] < 100 {
		t.Errorf("too few of a kind: %v", kinds)
	}
}
