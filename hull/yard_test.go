package hull_test

import (
	"reflect"
	"slices"
	"testing"

	"thalweg/api"
	"thalweg/hull"
)

// lengths returns the lengths of the sections of a hull.
func lengths(h api.Hull) []int {
	var list []int
	for _, x := range h.Sections {
		list = append(list, x.Length)
	}
	return list
}

// P2.7: Cut leaves the sections before and behind those that are cut out, and its errors come in their order.
func TestCut(t *testing.T) {
	for name, c := range map[string]struct {
		h        api.Hull
		from, to int
		left     []int
		e        api.Errno
	}{
		"first":           {long(1, 2, 3, 4), 0, 1, []int{2, 3, 4}, api.OK},
		"middle":          {long(1, 2, 3, 4), 1, 3, []int{1, 4}, api.OK},
		"last":            {long(1, 2, 3, 4), 3, 4, []int{1, 2, 3}, api.OK},
		"all but one":     {long(1, 2, 3, 4), 1, 4, []int{1}, api.OK},
		"all":             {long(1, 2, 3, 4), 0, 4, nil, api.ErrForm},
		"the only one":    {long(1), 0, 1, nil, api.ErrForm},
		"nothing":         {long(1, 2, 3, 4), 2, 2, nil, api.ErrRange},
		"nothing at 0":    {long(1, 2, 3, 4), 0, 0, nil, api.ErrRange},
		"nothing at all":  {long(1, 2, 3, 4), 4, 4, nil, api.ErrRange},
		"upside down":     {long(1, 2, 3, 4), 3, 1, nil, api.ErrRange},
		"below 0":         {long(1, 2, 3, 4), -1, 1, nil, api.ErrRange},
		"too far":         {long(1, 2, 3, 4), 3, 5, nil, api.ErrRange},
		"all and more":    {long(1, 2, 3, 4), 0, 5, nil, api.ErrRange},
		"more before all": {long(1, 2, 3, 4), -1, 3, nil, api.ErrRange},
	} {
		got, e := hull.Cut(c.h, c.from, c.to)
		if !slices.Equal(lengths(got), c.left) {
			t.Errorf("%s: %v", name, lengths(got))
		}
		expect(t, name, outcomeOf(e, got), c.e)
	}
}

// Example 4: without a section there are the other one's limit, volume and holds, and the lots stay what they are.
func TestCutExample(t *testing.T) {
	h, e := hull.Cut(example(), 0, 1)
	if e != api.OK || !reflect.DeepEqual(h, api.Hull{Lot: 100, Sections: []api.HullSection{section()}}) {
		t.Fatalf("%v, error %d", h, e)
	}
	if volume, e := hull.Volume(h, 150); volume != 450 || e != api.OK {
		t.Errorf("volume %d, error %d", volume, e)
	}
	if _, e := hull.Volume(h, 300); e != api.OK {
		t.Errorf("at the limit: error %d", e)
	}
	if _, e := hull.Volume(h, 301); e != api.ErrRange {
		t.Errorf("beyond the limit: error %d", e)
	}
}

// withHolds returns a hull of two sections with this many holds.
func withHolds(a, b int) api.Hull {
	h := example()
	h.Sections[0].Holds, h.Sections[1].Holds = make([]api.HullHold, a), make([]api.HullHold, b)
	return h
}

// withLot returns the hull of the examples with another Lot.
func withLot(lot int) api.Hull {
	h := example()
	h.Lot = lot
	return h
}

// P2.7: Weld has the sections of both hulls, and its errors come in their order.
func TestWeld(t *testing.T) {
	for name, c := range map[string]struct {
		a, b  api.Hull
		whole []int
		e     api.Errno
	}{
		"two":                {long(1, 2), long(3), []int{1, 2, 3}, api.OK},
		"6 sections":         {long(1, 2, 3), long(4, 5, 6), []int{1, 2, 3, 4, 5, 6}, api.OK},
		"7 sections":         {long(1, 2, 3), long(4, 5, 6, 7), nil, api.ErrFull},
		"200 meters":         {long(100), long(50, 50), []int{100, 50, 50}, api.OK},
		"201 meters":         {long(100, 1), long(100), nil, api.ErrFull},
		"4 holds":            {withHolds(2, 1), withHolds(0, 1), []int{30, 30, 30, 30}, api.OK},
		"5 holds":            {withHolds(2, 1), withHolds(0, 2), nil, api.ErrFull},
		"other lot":          {example(), withLot(99), nil, api.ErrState},
		"lot before full":    {long(100, 1), withLot(99), nil, api.ErrState},
		"both lots 1":        {withLot(1), withLot(1), []int{30, 30, 30, 30}, api.OK},
		"second is invalid":  {example(), api.Hull{}, nil, api.ErrArg},
		"first is invalid":   {api.Hull{}, withLot(99), nil, api.ErrArg},
		"invalid, other lot": {example(), withLot(1001), nil, api.ErrArg},
	} {
		got, e := hull.Weld(c.a, c.b)
		if !slices.Equal(lengths(got), c.whole) {
			t.Errorf("%s: %v", name, lengths(got))
		}
		if e == api.OK && got.Lot != c.a.Lot {
			t.Errorf("%s: lot %d", name, got.Lot)
		}
		expect(t, name, outcomeOf(e, got), c.e)
	}
}

// P2.13: a hull that is cut into two parts, which are welded, is the same hull.
func TestCutAndWeld(t *testing.T) {
	d := newDice(10)
	for range 500 {
		h := d.hull(d.from(2, 4), 5)
		n := d.from(1, len(h.Sections)-1)
		first, e := hull.Cut(h, n, len(h.Sections))
		last, f := hull.Cut(h, 0, n)
		if e != api.OK || f != api.OK {
			t.Fatal(e, f)
		}
		if len(first.Sections) != n || len(last.Sections) != len(h.Sections)-n {
			t.Fatalf("%d and %d sections of %d", len(first.Sections), len(last.Sections), len(h.Sections))
		}
		if got, e := hull.Weld(first, last); e != api.OK || !reflect.DeepEqual(got, h) {
			t.Fatalf("%v, not %v; error %d", got, h, e)
		}
	}
}

// limit returns the greatest draft at which a hull has a volume.
func limit(h api.Hull) int {
	for draft := 0; ; draft++ {
		if _, e := hull.Volume(h, draft); e != api.OK {
			return draft - 1
		}
	}
}

// P2.13: the volume of a welded hull is the sum of those of its parts, up to the lesser one of their limits.
func TestVolumeOfWelded(t *testing.T) {
	d := newDice(11)
	for range 200 {
		a, b := d.hull(d.from(1, 2), 5), d.hull(d.from(1, 2), 5)
		b.Lot = a.Lot
		b.Sections[0].Holds = nil
		h, e := hull.Weld(a, b)
		if e == api.ErrFull {
			continue
		}
		if e != api.OK || limit(h) != min(limit(a), limit(b)) {
			t.Fatalf("limit %d of %d and %d, error %d", limit(h), limit(a), limit(b), e)
		}
		for draft := range limit(h) + 1 {
			whole, _ := hull.Volume(h, draft)
			first, _ := hull.Volume(a, draft)
			last, _ := hull.Volume(b, draft)
			if whole != first+last {
				t.Fatalf("%d at %d, not %d and %d", whole, draft, first, last)
			}
		}
	}
}

// plate returns a plate.
func plate(thick, wear api.Bounds) api.HullPlate { return api.HullPlate{Thick: thick, Wear: wear} }

// P2.8 and example 5: how long plates last, and which is the first one with the least Low.
func TestLife(t *testing.T) {
	a, b := plate(to(800, 820), to(10, 15)), plate(to(700, 700), to(0, 4))
	for name, c := range map[string]struct {
		plates []api.HullPlate
		least  int
		years  api.Bounds
		plate  int
	}{
		"example 5":            {[]api.HullPlate{a, b}, 600, to(13, 22), 0},
		"other order":          {[]api.HullPlate{b, a}, 600, to(13, 22), 1},
		"second alone":         {[]api.HullPlate{b}, 600, to(25, 1000), 0},
		"first of equal ones":  {[]api.HullPlate{b, a, a}, 600, to(13, 22), 1},
		"no year":              {[]api.HullPlate{a}, 786, to(0, 3), 0},
		"just one year":        {[]api.HullPlate{a}, 785, to(1, 3), 0},
		"thick enough now":     {[]api.HullPlate{a}, 800, to(0, 2), 0},
		"possibly too thin":    {[]api.HullPlate{a}, 801, to(-1, 1), 0},
		"just possibly":        {[]api.HullPlate{a}, 820, to(-1, 0), 0},
		"too thin":             {[]api.HullPlate{a}, 821, to(-1, -1), 0},
		"first that is thin":   {[]api.HullPlate{a, b, b}, 750, to(-1, -1), 1},
		"no wear":              {[]api.HullPlate{plate(to(5, 9), to(0, 0))}, 5, to(1000, 1000), 0},
		"no wear, too thin":    {[]api.HullPlate{plate(to(5, 9), to(0, 0))}, 6, to(-1, 1000), 0},
		"as long as possible":  {[]api.HullPlate{plate(to(1000, 1000), to(1, 1))}, 0, to(1000, 1000), 0},
		"one year less":        {[]api.HullPlate{plate(to(999, 1001), to(1, 1))}, 0, to(999, 1000), 0},
		"thickest":             {[]api.HullPlate{plate(to(100000, 100000), to(1000, 1000))}, 0, to(100, 100), 0},
		"all for all years":    {[]api.HullPlate{plate(to(9, 9), to(0, 0)), plate(to(9, 9), to(0, 0))}, 9, to(1000, 1000), 0},
		"ends of other plates": {[]api.HullPlate{plate(to(10, 90), to(1, 1)), plate(to(20, 30), to(1, 1))}, 0, to(10, 30), 0},
		"nothing left":         {[]api.HullPlate{plate(to(0, 0), to(0, 1))}, 0, to(0, 1000), 0},
	} {
		years, number, e := hull.Life(c.plates, c.least)
		if years != c.years || number != c.plate || e != api.OK {
			t.Errorf("%s: %v, plate %d, error %d", name, years, number, e)
		}
	}
}

// P2.8: the errors, in their order.
func TestLifeErrors(t *testing.T) {
	good := plate(to(800, 820), to(10, 15))
	invalid := plate(to(1, 0), to(0, 0))
	for name, c := range map[string]struct {
		plates []api.HullPlate
		least  int
		e      api.Errno
	}{
		"no plates":         {nil, -1, api.ErrForm},
		"empty plates":      {[]api.HullPlate{}, -1, api.ErrForm},
		"50 plates":         {slices.Repeat([]api.HullPlate{good}, 50), 600, api.OK},
		"51 plates":         {slices.Repeat([]api.HullPlate{invalid}, 51), -1, api.ErrLong},
		"thick upside down": {[]api.HullPlate{good, invalid}, -1, api.ErrArg},
		"thick below 0":     {[]api.HullPlate{plate(to(-1, 0), to(0, 0))}, 0, api.ErrArg},
		"too thick":         {[]api.HullPlate{plate(to(0, 100001), to(0, 0))}, 0, api.ErrArg},
		"wear upside down":  {[]api.HullPlate{plate(to(0, 0), to(3, 2)), good}, 0, api.ErrArg},
		"wear below 0":      {[]api.HullPlate{plate(to(0, 0), to(-1, 2))}, 0, api.ErrArg},
		"too much wear":     {[]api.HullPlate{plate(to(0, 0), to(0, 1001))}, 100001, api.ErrArg},
		"widest":            {[]api.HullPlate{plate(to(0, 100000), to(0, 1000))}, 100000, api.OK},
		"least below 0":     {[]api.HullPlate{good}, -1, api.ErrRange},
		"least 0":           {[]api.HullPlate{good}, 0, api.OK},
		"least too great":   {[]api.HullPlate{good}, 100001, api.ErrRange},
	} {
		years, number, e := hull.Life(c.plates, c.least)
		expect(t, name, outcomeOf(e, years, number), c.e)
	}
}

// plates returns n plates.
func (d dice) plates(n int) []api.HullPlate {
	var list []api.HullPlate
	for range n {
		list = append(list, plate(d.bounds(0, 60), d.bounds(0, 9)))
	}
	return list
}

// trueLife returns how many years a plate lasts in a truth, year by year.
func trueLife(thick, wear, least int) int {
	years := -1
	for years < 1000 && thick-(years+1)*wear >= least {
		years++
	}
	return years
}

// P2.14: whatever is true, all plates last for some number of years within the bounds; both ends are true for some truth.
func TestTrueLives(t *testing.T) {
	d := newDice(12)
	for range 500 {
		plates, least := d.plates(d.from(1, 4)), d.from(0, 30)
		years, number, e := hull.Life(plates, least)
		if e != api.OK {
			t.Fatal(e)
		}
		worst, best, first := 1001, 1001, -1
		for i, p := range plates {
			if low := trueLife(p.Thick.Low, p.Wear.High, least); low < worst {
				worst, first = low, i
			}
			best = min(best, trueLife(p.Thick.High, p.Wear.Low, least))
		}
		if years != to(worst, best) || number != first {
			t.Fatalf("%v, %d: %v, plate %d, not %d to %d, plate %d", plates, least, years, number, worst, best, first)
		}
		for range 20 {
			all := 1001
			for _, p := range plates {
				all = min(all, trueLife(d.choose(p.Thick).Low, d.choose(p.Wear).Low, least))
			}
			if all < years.Low || all > years.High {
				t.Fatalf("%v, %d: %d years, not %v", plates, least, all, years)
			}
		}
	}
}

// P2.14: with a plate more neither end is greater.
func TestOnePlateMore(t *testing.T) {
	d := newDice(13)
	for range 500 {
		plates, least := d.plates(d.from(2, 5)), d.from(0, 30)
		more, _, _ := hull.Life(plates, least)
		less, _, _ := hull.Life(plates[1:], least)
		if more.Low > less.Low || more.High > less.High {
			t.Fatalf("%v, with one plate more %v", less, more)
		}
	}
}
