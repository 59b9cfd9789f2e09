package hull_test

import (
	"math/big"
	"testing"

	"thalweg/api"
	"thalweg/hull"
)

// P2.2 and examples 1 and 4: volumes at rows, between them, and at the limit.
func TestVolume(t *testing.T) {
	other := example()
	other.Sections[1].Curve = []api.HullRow{row(0, 0), row(7, 3), row(200, 1000)}
	one := api.Hull{Lot: 1, Sections: []api.HullSection{section()}}
	for name, c := range map[string]struct {
		h             api.Hull
		draft, volume int
		e             api.Errno
	}{
		"at 0":                 {example(), 0, 0, api.OK},
		"at 1":                 {example(), 1, 6, api.OK},
		"at 100":               {example(), 100, 600, api.OK},
		"at 150":               {example(), 150, 900, api.OK},
		"at the limit":         {example(), 300, 1800, api.OK},
		"beyond it":            {example(), 301, 0, api.ErrRange},
		"below 0":              {example(), -1, 0, api.ErrRange},
		"one section":          {one, 150, 450, api.OK},
		"rounded down":         {other, 1, 3 + 0, api.OK},
		"rounded down again":   {other, 6, 18 + 2, api.OK},
		"at a row":             {other, 7, 21 + 3, api.OK},
		"behind it":            {other, 8, 24 + 8, api.OK},
		"at the lesser limit":  {other, 200, 600 + 1000, api.OK},
		"beyond the lesser":    {other, 201, 0, api.ErrRange},
		"each part is rounded": {api.Hull{Lot: 1, Sections: []api.HullSection{flat(), flat()}}, 1, 0, api.OK},
	} {
		if got, e := hull.Volume(c.h, c.draft); got != c.volume || e != c.e {
			t.Errorf("%s: %d, error %d", name, got, e)
		}
	}
}

// flat returns a section that displaces half a cubic meter at a draft of 1.
func flat() api.HullSection {
	return api.HullSection{Length: 2, Trim: 1, Curve: []api.HullRow{row(0, 0), row(2, 1)}}
}

// P2.3 and examples 1 to 3: drafts and trims.
func TestFloat(t *testing.T) {
	aft := example()
	aft.Sections[1].Light = 300
	for name, c := range map[string]struct {
		h       api.Hull
		load    []int
		density api.Bounds
		want    api.HullFloat
	}{
		"example 1":       {example(), []int{2, 2}, to(1000, 1000), api.HullFloat{Mean: to(100, 100), Deep: to(100, 100)}},
		"lighter water":   {example(), []int{2, 2}, to(900, 1000), api.HullFloat{Mean: to(100, 112), Deep: to(100, 112)}},
		"heavier water":   {example(), []int{2, 2}, to(1100, 1100), api.HullFloat{Mean: to(91, 91), Deep: to(91, 91)}},
		"all densities":   {example(), []int{2, 2}, to(900, 1100), api.HullFloat{Mean: to(91, 112), Deep: to(91, 112)}},
		"example 2":       {example(), []int{3, 1}, to(1000, 1000), api.HullFloat{Mean: to(100, 100), Deep: to(115, 115), Head: -1}},
		"other end":       {example(), []int{1, 3}, to(1000, 1000), api.HullFloat{Mean: to(100, 100), Deep: to(115, 115), Head: 1}},
		"one lot":         {example(), []int{0, 1}, to(1000, 1000), api.HullFloat{Mean: to(50, 50), Deep: to(58, 58), Head: 1}},
		"two lots":        {example(), []int{1, 1}, to(1000, 1000), api.HullFloat{Mean: to(67, 67), Deep: to(67, 67)}},
		"empty":           {example(), []int{0, 0}, to(1000, 1000), api.HullFloat{Mean: to(34, 34), Deep: to(34, 34)}},
		"full":            {example(), []int{4, 4}, to(1000, 1000), api.HullFloat{Mean: to(167, 167), Deep: to(167, 167)}},
		"heavy section":   {aft, []int{0, 0}, to(1000, 1000), api.HullFloat{Mean: to(67, 67), Deep: to(82, 82), Head: 1}},
		"balanced by two": {aft, []int{2, 0}, to(1000, 1000), api.HullFloat{Mean: to(100, 100), Deep: to(100, 100)}},
		"a trace aft":     {api.Hull{Lot: 1, Sections: []api.HullSection{{Length: 1, Trim: 100000, Curve: rows(9), Holds: []api.HullHold{at(1, 1)}}}}, []int{1}, to(1000, 1000), api.HullFloat{Mean: to(1, 1), Deep: to(2, 2), Head: 1}},
		"nothing at all":  {api.Hull{Lot: 1, Sections: []api.HullSection{flat()}}, nil, to(900, 1100), api.HullFloat{}},
	} {
		if got, e := hull.Float(c.h, c.load, c.density); got != c.want || e != api.OK {
			t.Errorf("%s: %v, error %d", name, got, e)
		}
	}
}

// P2.3: the errors of a load and a density, in their order.
func TestFloatErrors(t *testing.T) {
	for name, c := range map[string]struct {
		load    []int
		density api.Bounds
		e       api.Errno
	}{
		"no load":           {nil, to(1000, 1000), api.ErrForm},
		"empty load":        {[]int{}, to(1000, 1000), api.ErrForm},
		"short load":        {[]int{1}, to(1000, 1000), api.ErrForm},
		"long load":         {[]int{1, 1, 0}, to(1000, 1000), api.ErrForm},
		"form before range": {[]int{5, 1, 1}, to(2, 1), api.ErrForm},
		"below 0":           {[]int{-1, 1}, to(1000, 1000), api.ErrRange},
		"too many lots":     {[]int{0, 5}, to(1000, 1000), api.ErrRange},
		"range first":       {[]int{5, 0}, to(2, 1), api.ErrRange},
		"too light":         {[]int{0, 1}, to(899, 1000), api.ErrArg},
		"too heavy":         {[]int{0, 1}, to(1000, 1101), api.ErrArg},
		"upside down":       {[]int{0, 1}, to(1001, 1000), api.ErrArg},
		"lightest":          {[]int{0, 1}, to(900, 900), api.OK},
		"heaviest":          {[]int{0, 1}, to(1100, 1100), api.OK},
		"each number of it": {[]int{4, 4}, to(900, 1100), api.OK},
	} {
		x := valid()
		x.load, x.density = c.load, c.density
		expect(t, name, x.float(), c.e)
		if c.e != api.OK {
			x.p.Keel = -1 // which is an error, too, but a later one
			expect(t, name+", Safe", x.safe(), c.e)
			expect(t, name+", Later", x.later(), c.e)
		}
	}
}

// P2.3: a hull sinks if its deep draft is beyond the limit for one of the densities; before that the density has its own error.
func TestFloatSinks(t *testing.T) {
	cut := func(draft int) api.Hull { // the same hull, but with a limit
		h := example()
		h.Sections[1].Curve = []api.HullRow{row(0, 0), row(draft, 3*draft)}
		return h
	}
	for name, c := range map[string]struct {
		h       api.Hull
		load    []int
		density api.Bounds
		e       api.Errno
	}{
		"as deep as it can":      {cut(100), []int{2, 2}, to(1000, 1000), api.OK},
		"one too deep":           {cut(99), []int{2, 2}, to(1000, 1000), api.ErrFull},
		"in heavier water":       {cut(91), []int{2, 2}, to(1100, 1100), api.OK},
		"in any of these waters": {cut(112), []int{2, 2}, to(900, 1000), api.OK},
		"in lighter water":       {cut(111), []int{2, 2}, to(900, 1000), api.ErrFull},
		"by its trim":            {cut(114), []int{3, 1}, to(1000, 1000), api.ErrFull},
		"not by its trim":        {cut(115), []int{3, 1}, to(1000, 1000), api.OK},
		"far too heavy":          {cut(1), []int{4, 4}, to(1000, 1000), api.ErrFull},
		"no such density":        {cut(1), []int{4, 4}, to(1000, 1101), api.ErrArg},
	} {
		x := call{c.h, c.load, c.density, deep()}
		expect(t, name+": Float", x.float(), c.e)
		expect(t, name+": Safe", x.safe(), c.e)
		expect(t, name+": Later", x.later(), c.e)
		if c.e != api.OK {
			x.p.Keel = -1
			expect(t, name+": Safe with more errors", x.safe(), c.e)
			expect(t, name+": Later with more errors", x.later(), c.e)
		}
	}
}

// The functions here say what chapter 2 says of drafts once more, in fractions and without any search that is faster than it must be.

// trueVolume returns the volume of a hull at a draft, and whether each section has one.
func trueVolume(h api.Hull, draft int) (int, bool) {
	total := 0
	for _, x := range h.Sections {
		for i := range x.Curve {
			if i+1 == len(x.Curve) {
				return 0, false
			}
			a, b := x.Curve[i], x.Curve[i+1]
			if a.Draft <= draft && draft <= b.Draft {
				part := big.NewRat(int64((draft-a.Draft)*(b.Volume-a.Volume)), int64(b.Draft-a.Draft))
				part.Add(part, big.NewRat(int64(a.Volume), 1))
				total += int(new(big.Int).Quo(part.Num(), part.Denom()).Int64())
				break
			}
		}
	}
	return total, true
}

// weights returns the mass of a loaded hull, and its moment.
func weights(h api.Hull, load []int) (mass, moment int) {
	length, hold := 0, 0
	turn := 0 // about the fore end
	for _, x := range h.Sections {
		mass += x.Light
		turn += x.Light * (2*length + x.Length)
		for _, y := range x.Holds {
			mass += load[hold] * h.Lot
			turn += load[hold] * h.Lot * 2 * (length + y.At)
			hold++
		}
		length += x.Length
	}
	return mass, turn - mass*length
}

// needed returns how much water must be displaced at a density.
func needed(mass, density int) int {
	return (mass*1000 + density - 1) / density
}

// trueDrafts returns the drafts of a loaded hull at one density, and whether it floats.
func trueDrafts(h api.Hull, load []int, density int) (mean, deep int, floats bool) {
	mass, moment := weights(h, load)
	for {
		volume, possible := trueVolume(h, mean)
		if !possible {
			return 0, 0, false
		}
		if volume >= needed(mass, density) {
			break
		}
		mean++
	}
	trim := 0
	for _, x := range h.Sections {
		trim += 4 * x.Trim
	}
	deep = mean + (max(moment, -moment)+trim-1)/trim
	_, floats = trueVolume(h, deep)
	return mean, deep, floats
}

// P2.2: Volume is what the chapter says, at each draft up to the limit.
func TestTrueVolumes(t *testing.T) {
	d := newDice(1)
	for range 200 {
		h := d.hull(d.from(1, 4), 3)
		for draft := 0; ; draft++ {
			want, possible := trueVolume(h, draft)
			got, e := hull.Volume(h, draft)
			if possible && (got != want || e != api.OK) || !possible && (got != 0 || e != api.ErrRange) {
				t.Fatalf("%v at %d: %d, not %d; error %d", h, draft, got, want, e)
			}
			if !possible {
				break
			}
		}
	}
}

// P2.3: the drafts of Float are from the least to the greatest of all densities; it sinks if it does so with one of them.
func TestTrueDrafts(t *testing.T) {
	d := newDice(2)
	floating, sinking, heads := 0, 0, map[int]int{}
	for range 2000 {
		h := d.hull(d.from(1, 4), 5)
		load, low := d.load(h), d.from(900, 1090)
		density := to(low, low+d.from(0, 10))
		want, floats := api.HullFloat{}, true
		for n := density.Low; n <= density.High; n++ {
			mean, deep, possible := trueDrafts(h, load, n)
			floats = floats && possible
			if n == density.Low {
				want.Mean, want.Deep = to(mean, mean), to(deep, deep)
			}
			want.Mean = to(min(want.Mean.Low, mean), max(want.Mean.High, mean))
			want.Deep = to(min(want.Deep.Low, deep), max(want.Deep.High, deep))
		}
		_, moment := weights(h, load)
		if moment != 0 {
			want.Head = moment / max(moment, -moment)
		}
		got, e := hull.Float(h, load, density)
		if !floats {
			sinking++
			if e != api.ErrFull || got != (api.HullFloat{}) {
				t.Fatalf("%v with %v sinks at %v: %v, error %d", h, load, density, got, e)
			}
			continue
		}
		floating++
		heads[want.Head]++
		if e != api.OK || got != want {
			t.Fatalf("%v with %v at %v: %v, not %v; error %d", h, load, density, got, want, e)
		}
	}
	if floating < 200 || sinking < 200 || heads[-1] < 50 || heads[1] < 50 || heads[0] < 5 {
		t.Errorf("%d floating, %d sinking, heads %v", floating, sinking, heads)
	}
}
