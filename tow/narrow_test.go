package tow_test

import (
	"testing"

	"thalweg/api"
	"thalweg/tow"
)

// steady returns a voyage that starts in some minutes and makes a hectometer a minute, with a tow that has some meters.
func steady(start api.Bounds, meters, from, last int) api.Voyage {
	return voyage(start, meters, run(from, last, at(60), at(0)))
}

// P3.6, examples 4 and 5: when tows are in narrows, down and up.
func TestThrough(t *testing.T) {
	for name, c := range map[string]struct {
		v       api.Voyage
		n       api.Narrow
		in, out api.Bounds
	}{
		"example 4":              {downward(), narrow(40, 50), to(24, 58), to(32, 73)},
		"example 5":              {upward(), narrow(40, 50), at(50), at(57)},
		"100 meters":             {steady(to(0, 3), 100, 0, 100), narrow(40, 50), to(40, 43), to(51, 54)},
		"101 meters":             {steady(to(0, 3), 101, 0, 100), narrow(40, 50), to(40, 43), to(52, 55)},
		"1 meter":                {steady(at(0), 1, 0, 100), narrow(40, 50), at(40), at(51)},
		"3000 meters":            {steady(at(0), 3000, 0, 100), narrow(40, 50), at(40), at(80)},
		"3000 meters, up":        {steady(at(0), 3000, 100, 0), narrow(40, 50), at(50), at(90)},
		"101 meters, up":         {steady(at(0), 101, 100, 0), narrow(40, 50), at(50), at(62)},
		"just passes":            {steady(at(7), 200, 40, 52), narrow(40, 50), at(7), at(19)},
		"just passes, up":        {steady(at(7), 200, 50, 38), narrow(40, 50), at(7), at(19)},
		"at the top":             {steady(at(7), 200, 0, 100), narrow(0, 1), at(7), at(10)},
		"at the top, up":         {steady(at(7), 200, 100, 0), narrow(2, 3), at(104), at(107)},
		"in the wait of a run":   {stages(), narrow(12, 19), to(106, 119), to(110, 127)},
		"behind the wait of one": {stages(), narrow(12, 20), to(106, 119), to(118, 166)},
	} {
		in, out, passes, e := tow.Through(c.v, c.n)
		if in != c.in || out != c.out || !passes || e != api.OK {
			t.Errorf("%s: %v, %v, %t, error %d", name, in, out, passes, e)
		}
	}
}

// P3.6: voyages that do not come near to a narrow, that come near but do not pass, and that pass.
func TestNear(t *testing.T) {
	// With 200 meters a tow that goes down is in the narrow from 40 to 52, and one that goes up from 50 to 38.
	for name, c := range map[string]struct {
		from, last int
		passes     bool
		e          api.Errno
	}{
		"ends before":         {0, 39, false, api.OK},
		"ends at it":          {0, 40, false, api.OK},
		"ends in it":          {0, 41, false, api.ErrState},
		"ends behind it":      {0, 50, false, api.ErrState},
		"tail does not leave": {0, 51, false, api.ErrState},
		"tail leaves":         {0, 52, true, api.OK},
		"begins at it":        {40, 60, true, api.OK},
		"begins in it":        {41, 60, false, api.ErrState},
		"tail begins in it":   {51, 60, false, api.ErrState},
		"begins behind it":    {52, 60, false, api.OK},
		"inside":              {44, 45, false, api.ErrState},
		"tail only, inside":   {51, 52, false, api.ErrState},
		"up: ends before":     {90, 51, false, api.OK},
		"up: ends at it":      {90, 50, false, api.OK},
		"up: ends in it":      {90, 49, false, api.ErrState},
		"up: ends behind it":  {90, 40, false, api.ErrState},
		"up: tail stays":      {90, 39, false, api.ErrState},
		"up: tail leaves":     {90, 38, true, api.OK},
		"up: begins at it":    {50, 20, true, api.OK},
		"up: begins in it":    {49, 20, false, api.ErrState},
		"up: tail in it":      {39, 20, false, api.ErrState},
		"up: begins behind":   {38, 20, false, api.OK},
		"up: inside":          {45, 44, false, api.ErrState},
	} {
		v := steady(at(5), 200, c.from, c.last)
		in, out, passes, e := tow.Through(v, narrow(40, 50))
		if passes != c.passes || e != c.e || !passes && (in != at(0) || out != at(0)) {
			t.Errorf("%s: %v, %v, %t, error %d", name, in, out, passes, e)
		}
		may, must, e := tow.Meet(v, v, narrow(40, 50))
		if may != c.passes || must != c.passes || e != c.e {
			t.Errorf("%s: Meet returns %t, %t, error %d", name, may, must, e)
		}
		list, e := tow.Conflicts([]api.Voyage{v, v}, []api.Narrow{single(40, 50)})
		if c.passes != (len(list) == 1) || e != c.e {
			t.Errorf("%s: Conflicts returns %v, error %d", name, list, e)
		}
	}
	// The ends of the river: no tow can leave a narrow there with its tail, but it comes near.
	expect(t, "to the end", through(steady(at(0), 100, 0, 100000), narrow(99999, 100000)), api.ErrState)
	expect(t, "to the top", through(steady(at(0), 100, 100000, 0), narrow(0, 1)), api.ErrState)
}

// P3.7: two voyages may meet if the minutes in which they can be in the narrow have one in common, and must if those in which they surely are have.
func TestMeet(t *testing.T) {
	n := narrow(40, 50)
	// A tow of 100 meters that starts in the minute 0 is in the narrow from 40 to 51, one that goes up from 100 on from 50 to 61.
	a := steady(at(0), 100, 0, 100)
	for name, c := range map[string]struct {
		b         api.Voyage
		may, must bool
	}{
		"itself":                  {a, true, true},
		"comes as it leaves":      {steady(at(11), 100, 0, 100), true, true},
		"comes later":             {steady(at(12), 100, 0, 100), false, false},
		"may come as it leaves":   {steady(to(11, 90), 100, 0, 100), true, false},
		"may come later":          {steady(to(12, 90), 100, 0, 100), false, false},
		"surely comes before":     {steady(to(0, 11), 100, 0, 100), true, true},
		"may come too late":       {steady(to(0, 12), 100, 0, 100), true, false},
		"from below":              {steady(at(0), 100, 100, 0), true, true},
		"from below, as it goes":  {steady(at(1), 100, 100, 0), true, true},
		"from below, later":       {steady(at(2), 100, 100, 0), false, false},
		"may come from below":     {steady(to(1, 2), 100, 100, 0), true, false},
		"leaves as it comes":      {steady(at(0), 100, 11, 100), true, true},
		"left before":             {steady(at(0), 100, 12, 100), false, false},
		"may be late enough":      {steady(to(0, 90), 100, 12, 100), true, false},
		"may just be late enough": {steady(to(0, 1), 100, 12, 100), true, false},
		"goes elsewhere":          {steady(at(0), 100, 60, 100), false, false},
		"stops before":            {steady(at(0), 100, 0, 40), false, false},
	} {
		for order, pair := range map[string][2]api.Voyage{"": {a, c.b}, ", second": {c.b, a}} {
			may, must, e := tow.Meet(pair[0], pair[1], n)
			if may != c.may || must != c.must || e != api.OK {
				t.Errorf("%s%s: %t, %t, error %d", name, order, may, must, e)
			}
		}
	}
	if may, must, e := tow.Meet(downward(), upward(), n); !may || must || e != api.OK {
		t.Errorf("example 5: %t, %t, error %d", may, must, e)
	}
	expect(t, "neither passes", meet(steady(at(0), 1, 0, 40), steady(at(0), 1, 60, 90), n), api.OK)
}

// P3.7: the errors of both voyages come first, then those of Through, of the first and of the second one.
func TestMeetErrors(t *testing.T) {
	good, part, invalid := steady(at(0), 100, 0, 100), steady(at(0), 100, 0, 45), api.Voyage{}
	n, wrong := narrow(40, 50), narrow(50, 40)
	for name, c := range map[string]struct {
		a, b api.Voyage
		n    api.Narrow
		e    api.Errno
	}{
		"no error":                {good, good, n, api.OK},
		"first is invalid":        {invalid, part, wrong, api.ErrArg},
		"second is invalid":       {good, invalid, n, api.ErrArg},
		"second before a part":    {part, invalid, n, api.ErrArg},
		"narrow":                  {good, good, wrong, api.ErrArg},
		"narrow before parts":     {part, part, wrong, api.ErrArg},
		"part of the first":       {part, good, n, api.ErrState},
		"part of the second":      {good, part, n, api.ErrState},
		"part of both":            {part, part, n, api.ErrState},
		"first elsewhere, a part": {steady(at(0), 1, 0, 9), part, n, api.ErrState},
	} {
		expect(t, name, meet(c.a, c.b, c.n), c.e)
	}
}
