package tow_test

import (
	"slices"
	"testing"

	"thalweg/api"
	"thalweg/tow"
)

// met returns a meeting.
func met(first, second, narrow int) api.Meeting {
	return api.Meeting{First: first, Second: second, Narrow: narrow}
}

// wide returns the voyage with a tow that is as wide as that.
func wide(v api.Voyage, width int) api.Voyage {
	v.Width = width
	return v
}

// example5 returns the voyages and the narrow of the chapter's example 5.
func example5() ([]api.Voyage, []api.Narrow) {
	return []api.Voyage{downward(), upward()}, []api.Narrow{single(40, 50)}
}

// P3.8 and example 5: which pairs may meet but must not, in their order.
func TestConflicts(t *testing.T) {
	a, b := downward(), upward()
	later := steady(at(200), 100, 0, 100)
	for name, c := range map[string]struct {
		l       []api.Voyage
		narrows []api.Narrow
		want    []api.Meeting
	}{
		"example 5":             {[]api.Voyage{a, b}, []api.Narrow{single(40, 50)}, []api.Meeting{met(0, 1, 0)}},
		"other order":           {[]api.Voyage{b, a}, []api.Narrow{single(40, 50)}, []api.Meeting{met(0, 1, 0)}},
		"wide enough":           {[]api.Voyage{a, b}, []api.Narrow{narrow(40, 50)}, nil},
		"not wide enough":       {[]api.Voyage{wide(a, 11), b}, []api.Narrow{narrow(40, 50)}, []api.Meeting{met(0, 1, 0)}},
		"second is too wide":    {[]api.Voyage{a, wide(b, 11)}, []api.Narrow{narrow(40, 50)}, []api.Meeting{met(0, 1, 0)}},
		"single, but apart":     {[]api.Voyage{a, later}, []api.Narrow{single(40, 50)}, nil},
		"no voyages":            {nil, []api.Narrow{single(40, 50)}, nil},
		"no narrows":            {[]api.Voyage{a, b}, nil, nil},
		"one voyage":            {[]api.Voyage{a}, []api.Narrow{single(40, 50)}, nil},
		"in the second one":     {[]api.Voyage{a, b}, []api.Narrow{narrow(40, 50), single(40, 50)}, []api.Meeting{met(0, 1, 1)}},
		"not all pass":          {[]api.Voyage{a, steady(at(0), 1, 0, 40), b}, []api.Narrow{single(40, 50)}, []api.Meeting{met(0, 2, 0)}},
		"none in one of three":  {[]api.Voyage{a, later, b}, []api.Narrow{single(40, 50)}, []api.Meeting{met(0, 2, 0)}},
		"same narrow twice":     {[]api.Voyage{a, b}, []api.Narrow{single(40, 50), single(40, 50)}, []api.Meeting{met(0, 1, 0), met(0, 1, 1)}},
		"the same way":          {[]api.Voyage{a, a}, []api.Narrow{single(40, 50)}, []api.Meeting{met(0, 1, 0)}},
		"too wide by itself":    {[]api.Voyage{wide(a, 150)}, []api.Narrow{narrow(40, 50)}, nil},
		"pairs, then narrows":   {[]api.Voyage{a, a, b}, []api.Narrow{single(40, 50), single(45, 50)}, []api.Meeting{met(0, 1, 0), met(0, 1, 1), met(0, 2, 0), met(0, 2, 1), met(1, 2, 0), met(1, 2, 1)}},
		"some pairs of four":    {[]api.Voyage{b, later, a, later}, []api.Narrow{single(40, 50)}, []api.Meeting{met(0, 2, 0), met(1, 3, 0)}},
		"first before second":   {[]api.Voyage{a, later, later, b}, []api.Narrow{single(40, 50)}, []api.Meeting{met(0, 3, 0), met(1, 2, 0)}},
		"some in some narrows":  {[]api.Voyage{a, wide(b, 11), b}, []api.Narrow{single(45, 50), narrow(40, 50)}, []api.Meeting{met(0, 1, 0), met(0, 1, 1), met(0, 2, 0), met(1, 2, 0), met(1, 2, 1)}},
		"wait at another place": {[]api.Voyage{steady(at(0), 1, 0, 40), steady(at(0), 1, 51, 90)}, []api.Narrow{single(40, 50)}, nil},
	} {
		if got, e := tow.Conflicts(c.l, c.narrows); !slices.Equal(got, c.want) || e != api.OK {
			t.Errorf("%s: %v, error %d", name, got, e)
		}
	}
}

// P3.8 to P3.10: the errors, in their order.
func TestErrorsOfLists(t *testing.T) {
	good, part, far, invalid := downward(), steady(at(0), 100, 0, 45), steady(at(0), 100, 100, 200), api.Voyage{}
	n, wrong := single(40, 50), narrow(50, 40)
	for name, c := range map[string]struct {
		l       []api.Voyage
		narrows []api.Narrow
		e       api.Errno
	}{
		"nothing":                   {nil, nil, api.OK},
		"as they are":               {[]api.Voyage{good, far}, []api.Narrow{n}, api.OK},
		"6 voyages":                 {slices.Repeat([]api.Voyage{far}, 6), []api.Narrow{n}, api.OK},
		"20 narrows":                {[]api.Voyage{good, far}, slices.Repeat([]api.Narrow{n}, 20), api.OK},
		"13 voyages":                {slices.Repeat([]api.Voyage{far}, 13), []api.Narrow{n}, api.ErrLong},
		"13 voyages, no narrows":    {slices.Repeat([]api.Voyage{far}, 13), nil, api.ErrLong},
		"13 invalid voyages":        {make([]api.Voyage, 13), []api.Narrow{wrong}, api.ErrLong},
		"21 narrows":                {[]api.Voyage{good}, slices.Repeat([]api.Narrow{n}, 21), api.ErrLong},
		"21 invalid narrows":        {[]api.Voyage{invalid}, make([]api.Narrow, 21), api.ErrLong},
		"21 narrows, no voyages":    {nil, slices.Repeat([]api.Narrow{n}, 21), api.ErrLong},
		"invalid voyage":            {[]api.Voyage{good, invalid}, []api.Narrow{n}, api.ErrArg},
		"invalid, no narrows":       {[]api.Voyage{invalid}, nil, api.ErrArg},
		"invalid narrow":            {[]api.Voyage{good, far}, []api.Narrow{n, wrong}, api.ErrArg},
		"invalid, no voyages":       {nil, []api.Narrow{wrong}, api.ErrArg},
		"voyage before a part":      {[]api.Voyage{part, invalid}, []api.Narrow{n}, api.ErrArg},
		"narrow before a part":      {[]api.Voyage{part, good}, []api.Narrow{n, wrong}, api.ErrArg},
		"part":                      {[]api.Voyage{good, part}, []api.Narrow{n}, api.ErrState},
		"part, alone":               {[]api.Voyage{part}, []api.Narrow{n}, api.ErrState},
		"part of the last narrow":   {[]api.Voyage{good, far}, []api.Narrow{n, single(195, 200)}, api.ErrState},
		"part, but wide enough":     {[]api.Voyage{good, part}, []api.Narrow{{From: 40, To: 50, Width: 200}}, api.ErrState},
		"neither one comes near it": {[]api.Voyage{good, far}, []api.Narrow{single(300, 400)}, api.OK},
	} {
		expect(t, name+": Conflicts", conflicts(c.l, c.narrows), c.e)
		for _, most := range []int{0, 17, 5000} {
			expect(t, name+": Holds", holds(c.l, c.narrows, most), c.e)
			expect(t, name+": Order", order(c.l, c.narrows, most), c.e)
		}
		late := c.e
		if late == api.OK {
			late = api.ErrRange
		}
		for _, most := range []int{-1, 5001} {
			expect(t, name+": Holds, wrong most", holds(c.l, c.narrows, most), late)
			expect(t, name+": Order, wrong most", order(c.l, c.narrows, most), late)
		}
	}
}

// P3.8 to P3.10: an invalid voyage or narrow, of whatever kind, has ErrArg wherever it is in its list.
func TestInvalidInLists(t *testing.T) {
	for name, change := range invalidVoyages {
		v := downward()
		change(&v)
		for _, l := range [][]api.Voyage{{v}, {v, upward()}, {upward(), v}} {
			expect(t, name+": Conflicts", conflicts(l, []api.Narrow{single(40, 50)}), api.ErrArg)
			expect(t, name+": Holds", holds(l, []api.Narrow{single(40, 50)}, 50), api.ErrArg)
			expect(t, name+": Order", order(l, []api.Narrow{single(40, 50)}, 50), api.ErrArg)
		}
	}
	for name, change := range invalidNarrows {
		n := narrow(40, 50)
		change(&n)
		for _, narrows := range [][]api.Narrow{{n}, {n, single(40, 50)}, {single(40, 50), n}} {
			l := []api.Voyage{downward()}
			expect(t, name+": Conflicts", conflicts(l, narrows), api.ErrArg)
			expect(t, name+": Holds", holds(l, narrows, 50), api.ErrArg)
			expect(t, name+": Order", order(l, narrows, 50), api.ErrArg)
		}
	}
}

// P3.9 and example 5: by how many minutes voyages are held back.
func TestHolds(t *testing.T) {
	a, b := downward(), upward()
	one := []api.Narrow{single(40, 50)}
	// A tow of 100 meters that starts in the minute 0 and makes a hectometer a minute is in the narrow for 12 minutes.
	v := steady(at(0), 100, 0, 100)
	for name, c := range map[string]struct {
		l       []api.Voyage
		narrows []api.Narrow
		most    int
		want    []int
	}{
		"example 5":              {[]api.Voyage{a, b}, one, 100, []int{0, 24}},
		"just as many":           {[]api.Voyage{a, b}, one, 24, []int{0, 24}},
		"no narrow":              {[]api.Voyage{a, b}, nil, 0, []int{0, 0}},
		"wide enough":            {[]api.Voyage{a, b}, []api.Narrow{narrow(40, 50)}, 0, []int{0, 0}},
		"no voyage":              {nil, one, 0, nil},
		"one voyage":             {[]api.Voyage{a}, one, 0, []int{0}},
		"other order":            {[]api.Voyage{b, a}, one, 100, []int{0, 34}},
		"one after another":      {[]api.Voyage{v, v, v}, one, 100, []int{0, 12, 24}},
		"between two":            {[]api.Voyage{v, heldBack(v, 24), v}, one, 100, []int{0, 0, 12}},
		"no room between two":    {[]api.Voyage{v, heldBack(v, 23), v}, one, 100, []int{0, 0, 35}},
		"before both":            {[]api.Voyage{heldBack(v, 12), heldBack(v, 30), v}, one, 0, []int{0, 0, 0}},
		"later one comes first":  {[]api.Voyage{heldBack(v, 20), v, v}, one, 100, []int{0, 0, 32}},
		"those held back":        {[]api.Voyage{v, heldBack(v, 5), heldBack(v, 12)}, one, 100, []int{0, 7, 12}},
		"two narrows":            {[]api.Voyage{v, steady(at(0), 100, 100, 0)}, []api.Narrow{single(40, 50), single(20, 30)}, 100, []int{0, 2}},
		"first one, then second": {[]api.Voyage{v, heldBack(v, 83), steady(at(0), 100, 100, 0)}, []api.Narrow{single(40, 50), single(10, 20)}, 100, []int{0, 0, 25}},
		"beyond MaxMinute":       {[]api.Voyage{heldBack(v, 1000000), heldBack(v, 1000000), heldBack(v, 999999)}, one, 5000, []int{0, 12, 25}},
		"most minutes":           {[]api.Voyage{steady(to(0, 4988), 100, 0, 100), v}, one, 5000, []int{0, 5000}},
	} {
		got, number, e := tow.Holds(c.l, c.narrows, c.most)
		if !slices.Equal(got, c.want) || number != 0 || e != api.OK {
			t.Errorf("%s: %v, %d, error %d", name, got, number, e)
		}
	}
}

// P3.9: the number of the first voyage that cannot be held back enough.
func TestHoldsFail(t *testing.T) {
	v := steady(at(0), 100, 0, 100)
	for name, c := range map[string]struct {
		l        []api.Voyage
		most, at int
	}{
		"a minute less":         {[]api.Voyage{downward(), upward()}, 23, 1},
		"no minute":             {[]api.Voyage{v, v}, 0, 1},
		"the third one":         {[]api.Voyage{v, v, v}, 23, 2},
		"the second of them":    {[]api.Voyage{v, v, v}, 11, 1},
		"not the last one":      {[]api.Voyage{v, heldBack(v, 100), v, heldBack(v, 200)}, 5, 2},
		"5000 are not enough":   {[]api.Voyage{steady(to(0, 4989), 100, 0, 100), v}, 5000, 1},
		"2 of 12 stay together": {slices.Concat(slices.Repeat([]api.Voyage{steady(at(0), 100, 60, 100)}, 10), []api.Voyage{v, v}), 11, 11},
	} {
		got, number, e := tow.Holds(c.l, []api.Narrow{single(40, 50)}, c.most)
		if got != nil || number != c.at || e != api.ErrNone {
			t.Errorf("%s: %v, %d, error %d", name, got, number, e)
		}
	}
}

// P3.8: the conflicts are those that Meet finds.
func TestConflictsMeet(t *testing.T) {
	d, found := newDice(37), 0
	for range 300 {
		l, narrows := d.voyages(d.from(0, 6)), d.narrows(d.from(0, 4))
		var want []api.Meeting
		for i, a := range l {
			for j, b := range l[i+1:] {
				for k, n := range narrows {
					may, _, e := tow.Meet(a, b, n)
					if e != api.OK {
						t.Fatal(e)
					}
					if may && (n.Single || a.Width+b.Width > n.Width) {
						want = append(want, met(i, i+1+j, k))
					}
				}
			}
		}
		found += len(want)
		if got, e := tow.Conflicts(l, narrows); !slices.Equal(got, want) || e != api.OK {
			t.Fatalf("%v, not %v; error %d", got, want, e)
		}
	}
	if found < 300 {
		t.Errorf("only %d conflicts", found)
	}
}

// conflicting reports whether the last voyage of a list has a conflict with one before it.
func conflicting(t *testing.T, l []api.Voyage, narrows []api.Narrow) bool {
	t.Helper()
	list, e := tow.Conflicts(l, narrows)
	if e != api.OK {
		t.Fatal(e)
	}
	return slices.ContainsFunc(list, func(m api.Meeting) bool { return m.Second == len(l)-1 })
}

// P3.9 and P3.12: each voyage is held back by the least number of minutes with which it has no conflict with those before it.
func TestHoldsAreLeast(t *testing.T) {
	d, failed, held := newDice(38), 0, 0
	for range 300 {
		l, narrows, most := d.voyages(d.from(0, 6)), d.narrows(d.from(0, 4)), d.from(0, 80)
		var before []api.Voyage
		var want []int
		for _, v := range l {
			minutes := 0
			for minutes <= most && conflicting(t, append(slices.Clone(before), heldBack(v, minutes)), narrows) {
				minutes++
			}
			if minutes > most {
				break
			}
			held += min(minutes, 1)
			before, want = append(before, heldBack(v, minutes)), append(want, minutes)
		}
		got, number, e := tow.Holds(l, narrows, most)
		if len(want) < len(l) {
			failed++
			if got != nil || number != len(want) || e != api.ErrNone {
				t.Fatalf("%v, %d, error %d; not %d", got, number, e, len(want))
			}
			continue
		}
		if !slices.Equal(got, want) || number != 0 || e != api.OK {
			t.Fatalf("%v, %d, error %d; not %v", got, number, e, want)
		}
		if list, e := tow.Conflicts(before, narrows); len(list) > 0 || e != api.OK {
			t.Fatalf("%v after Holds, error %d", list, e)
		}
	}
	if failed < 20 || failed > 200 || held < 100 {
		t.Errorf("%d of 300 fail, %d voyages are held back", failed, held)
	}
}
