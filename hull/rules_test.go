package hull_test

import (
	"math"
	"reflect"
	"slices"
	"testing"

	"thalweg/api"
	"thalweg/hull"
)

// R4: no argument is changed.
func TestArgumentsStay(t *testing.T) {
	x, other := valid(), example()
	plates := []api.HullPlate{plate(to(800, 820), to(10, 15))}
	x.p = rising(pass(0, 0, 1))
	x.float()
	x.safe()
	x.advise()
	x.later()
	hull.Check(x.h)
	hull.Volume(x.h, 3)
	hull.Cut(x.h, 0, 1)
	hull.Weld(x.h, other)
	hull.Life(plates, 600)
	want := valid()
	want.p = rising(pass(0, 0, 1))
	if !reflect.DeepEqual(x, want) || !reflect.DeepEqual(other, example()) || plates[0] != plate(to(800, 820), to(10, 15)) {
		t.Errorf("an argument was changed: %v, %v, %v", x, other, plates)
	}
}

// scribble writes into all that a hull has, and behind it.
func scribble(h api.Hull) {
	for i, x := range h.Sections {
		for j := range x.Curve {
			x.Curve[j] = row(-1, -1)
		}
		for j := range x.Holds {
			x.Holds[j] = at(-1, -1)
		}
		_, _ = append(x.Curve, row(-2, -2)), append(x.Holds, at(-2, -2))
		h.Sections[i] = api.HullSection{Length: -1}
	}
	_ = append(h.Sections, api.HullSection{Length: -2})
}

// R4: what is done with a result changes neither an argument, nor another part of the result, nor the other way round.
func TestResultsAreNew(t *testing.T) {
	h := api.Hull{Lot: 1, Sections: slices.Repeat([]api.HullSection{section()}, 3)}
	for i := range h.Sections {
		h.Sections[i] = section()
	}
	part, _ := hull.Cut(h, 0, 1)
	scribble(part)
	whole := long(30, 30)
	twice, _ := hull.Weld(whole, whole)
	twice.Sections[0].Curve[1] = row(-1, -1)
	if twice.Sections[2].Curve[1] != row(100, 300) {
		t.Error("two sections of a welded hull share memory")
	}
	scribble(twice)
	if hull.Check(h) != api.OK || !reflect.DeepEqual(h.Sections[2], section()) || !reflect.DeepEqual(whole, long(30, 30)) {
		t.Error("an argument was changed by its result")
	}
	a, b := example(), example()
	joined, _ := hull.Weld(a, b)
	left, _ := hull.Cut(a, 1, 2)
	scribble(a)
	scribble(b)
	if hull.Check(joined) != api.OK || hull.Check(left) != api.OK || len(joined.Sections) != 4 || len(left.Sections) != 1 {
		t.Error("a result was changed by its argument")
	}
	first, _ := hull.Advise(example(), to(1000, 1000), passage())
	first.Load[0] = 9
	if again, _ := hull.Advise(example(), to(1000, 1000), passage()); !slices.Equal(again.Load, []int{0, 1}) {
		t.Errorf("a result was changed by another one: %v", again)
	}
}

// R3: nil and empty lists are the same.
func TestNilIsEmpty(t *testing.T) {
	a, b := long(30), long(30)
	b.Sections[0].Holds = []api.HullHold{}
	for _, h := range []api.Hull{a, b} {
		for _, load := range [][]int{nil, {}} {
			if f, e := hull.Float(h, load, to(1000, 1000)); f.Mean != to(34, 34) || e != api.OK {
				t.Error(f, e)
			}
			if _, e := hull.Float(example(), load, to(1000, 1000)); e != api.ErrForm {
				t.Error(e)
			}
		}
		if advice, e := hull.Advise(h, to(1000, 1000), deep()); len(advice.Load) != 0 || advice.Lots != 0 || e != api.OK {
			t.Error(advice, e)
		}
	}
}

// P1: no function panics, or returns anything but zero values with an error, for the least and the greatest integers.
func TestExtremeNumbers(t *testing.T) {
	for _, n := range []int{math.MinInt, math.MinInt + 1, -1, math.MaxInt - 1, math.MaxInt} {
		wide := to(math.MinInt, n)
		strange := api.HullSection{Length: n, Light: n, Trim: n, Curve: []api.HullRow{{}, row(n, n)}, Holds: []api.HullHold{at(n, n)}}
		h := api.Hull{Lot: n, Sections: []api.HullSection{strange, strange}}
		if e := hull.Check(h); e != api.ErrArg {
			t.Errorf("%d: Check returns %d", n, e)
		}
		one := example()
		one.Sections[1] = strange
		if e := hull.Check(one); e != api.ErrArg {
			t.Errorf("%d: Check of one section returns %d", n, e)
		}
		volume, e := hull.Volume(example(), n)
		expect(t, "Volume", outcomeOf(e, volume), api.ErrRange)
		x := valid()
		x.load = []int{n, n}
		expect(t, "load: Float", x.float(), api.ErrRange)
		expect(t, "load: Safe", x.safe(), api.ErrRange)
		expect(t, "load: Later", x.later(), api.ErrRange)
		x = valid()
		x.density = wide
		expect(t, "density: Float", x.float(), api.ErrArg)
		expect(t, "density: Advise", x.advise(), api.ErrArg)
		x = valid()
		x.p.Keel = n
		expect(t, "keel: Safe", x.safe(), api.ErrRange)
		expect(t, "keel: Advise", x.advise(), api.ErrRange)
		expect(t, "keel: Later", x.later(), api.ErrRange)
		x = valid()
		x.p.Way[0].Hours = wide
		expect(t, "hours: Later", x.later(), api.ErrRange)
		for _, m := range []int{math.MinInt, 0, 1, math.MaxInt} {
			part, e := hull.Cut(example(), n, m)
			expect(t, "Cut", outcomeOf(e, part), api.ErrRange)
		}
		years, number, e := hull.Life([]api.HullPlate{plate(wide, wide)}, 0)
		expect(t, "plate", outcomeOf(e, years, number), api.ErrArg)
		years, number, e = hull.Life([]api.HullPlate{plate(to(0, 1), to(0, 1))}, n)
		expect(t, "least", outcomeOf(e, years, number), api.ErrRange)
	}
}
