package river_test

import (
	"testing"

	"thalweg/api"
	"thalweg/river"
)

// shoaly returns the river of the examples with two shoals more: a second one at the place 120, and one at 10 that gets lower.
func shoaly() api.River {
	r := example()
	r.Shoals = append(r.Shoals,
		api.Shoal{Place: 120, Bed: to(30, 49), Sounded: 2, Grow: to(24, 48)},
		api.Shoal{Place: 10, Bed: to(10, 200), Sounded: -24, Grow: to(-100, -1)})
	return r
}

// P1.6, P1.7 and examples 3 and 4: beds with and without shoals, at the ends of reaches, before a shoal was sounded, and depths over them.
func TestBedAndDepth(t *testing.T) {
	for _, c := range []struct {
		place, hour int
		bed, depth  api.Bounds
		e, f        api.Errno
	}{
		{0, 0, to(50, 60), to(80, 110), api.OK, api.OK},
		{99, 1, to(50, 60), to(80, 110), api.OK, api.OK},
		{100, 1, to(20, 20), to(130, 130), api.OK, api.OK},
		{119, 3, to(20, 20), to(130, 130), api.OK, api.OK},
		{149, 3, to(20, 20), to(130, 130), api.OK, api.OK},
		{120, 0, to(40, 50), to(100, 110), api.OK, api.OK},
		{120, 2, to(40, 51), to(99, 110), api.OK, api.OK},
		{120, 3, to(40, 52), to(98, 110), api.OK, api.OK},
		{120, 4, to(40, 53), to(0, 0), api.OK, api.ErrRange},
		{120, 10, to(40, 65), to(0, 0), api.OK, api.ErrRange},
		{120, 14, to(42, 73), to(0, 0), api.OK, api.ErrRange},
		{120, -5, to(40, 50), to(0, 0), api.OK, api.ErrRange},
		{120, -400, to(40, 50), to(0, 0), api.OK, api.ErrRange},
		{10, -24, to(50, 200), to(0, 0), api.OK, api.ErrRange},
		{10, 0, to(50, 199), to(0, 110), api.OK, api.OK},
		{10, 1, to(50, 199), to(0, 110), api.OK, api.OK},
		{10, 400, to(50, 183), to(0, 0), api.OK, api.ErrRange},
		{10, 401, to(0, 0), to(0, 0), api.ErrRange, api.ErrRange},
		{10, -401, to(0, 0), to(0, 0), api.ErrRange, api.ErrRange},
		{150, 401, to(0, 0), to(0, 0), api.ErrNone, api.ErrNone},
		{-1, -1, to(0, 0), to(0, 0), api.ErrNone, api.ErrNone},
	} {
		bed, e := river.Bed(shoaly(), c.place, c.hour)
		if bed != c.bed || e != c.e {
			t.Errorf("place %d, hour %d: bed %v, error %d", c.place, c.hour, bed, e)
		}
		depth, f := river.Depth(shoaly(), forecast(), c.place, c.hour)
		if depth != c.depth || f != c.f {
			t.Errorf("place %d, hour %d: depth %v, error %d", c.place, c.hour, depth, f)
		}
	}
}

// Example 3: the bed at the place 120, with the shoal of the examples alone.
func TestBedExample(t *testing.T) {
	for _, hour := range []int{3, 4} {
		if bed, e := river.Bed(example(), 120, hour); bed != to(40, 52) || e != api.OK {
			t.Errorf("hour %d: %v, error %d", hour, bed, e)
		}
	}
}

// P1.6: what is below 0 is rounded down and up, not towards 0, and the bottom is never undercut.
func TestBedGetsLower(t *testing.T) {
	r := longRiver(1)
	r.Shoals = []api.Shoal{{Bed: to(100, 100), Sounded: 5, Grow: to(-5, -5)}}
	for hour, want := range map[int]api.Bounds{
		5: to(100, 100), 6: to(99, 100), 9: to(99, 100), 10: to(98, 99), 29: to(95, 95), 30: to(94, 95),
	} {
		if bed, e := river.Bed(r, 0, hour); bed != want || e != api.OK {
			t.Errorf("hour %d: %v, error %d", hour, bed, e)
		}
	}
	r.Shoals[0].Grow = to(-500, -500)
	if bed, e := river.Bed(r, 0, 400); bed != to(0, 0) || e != api.OK {
		t.Errorf("far below the bottom: %v, error %d", bed, e)
	}
}

// P1.6: the greatest Low and the greatest High may come from different beds.
func TestBedOfSeveral(t *testing.T) {
	r := longRiver(1)
	r.Reaches[0].Bottom = to(30, 31)
	r.Shoals = []api.Shoal{{Bed: to(0, 90)}, {Bed: to(40, 50)}, {Bed: to(20, 80)}}
	if bed, e := river.Bed(r, 0, 0); bed != to(40, 90) || e != api.OK {
		t.Errorf("%v, error %d", bed, e)
	}
}

// P1.7: a depth below 0 is 0, at each end by itself.
func TestDepthIsNotBelow0(t *testing.T) {
	r := example()
	r.Reaches[0].Bottom = to(150, 170)
	if got, e := river.Depth(r, forecast(), 0, 0); got != to(0, 10) || e != api.OK {
		t.Errorf("possibly dry: %v, error %d", got, e)
	}
	r.Reaches[0].Bottom = to(170, 170)
	if got, e := river.Depth(r, forecast(), 0, 0); got != to(0, 0) || e != api.OK {
		t.Errorf("surely dry: %v, error %d", got, e)
	}
	if got, e := river.Depth(example(), forecast(), 0, -1); got != to(0, 0) || e != api.ErrRange {
		t.Errorf("before the forecast: %v, error %d", got, e)
	}
}

// pass returns a pass of a way.
func pass(place, low, high int) api.Pass { return api.Pass{Place: place, Hours: to(low, high)} }

// P1.8 and example 4: the least depth, the first pass and the first hour that have it, and the errors.
func TestShallowest(t *testing.T) {
	long := make([]api.Pass, 60)
	for name, c := range map[string]struct {
		way        []api.Pass
		want       api.Bounds
		pass, hour int
		e          api.Errno
	}{
		"example":            {[]api.Pass{pass(10, 0, 1), pass(120, 2, 3)}, to(80, 110), 0, 0, api.OK},
		"other order":        {[]api.Pass{pass(120, 2, 3), pass(10, 1, 1)}, to(80, 110), 1, 1, api.OK},
		"last hour":          {[]api.Pass{pass(120, 1, 3)}, to(98, 110), 0, 3, api.OK},
		"last pass":          {[]api.Pass{pass(120, 0, 0), pass(130, 0, 3), pass(120, 1, 2)}, to(99, 110), 2, 1, api.OK},
		"first hour":         {[]api.Pass{pass(130, 2, 3), pass(140, 0, 0)}, to(130, 130), 0, 2, api.OK},
		"60 passes":          {long, to(80, 110), 0, 0, api.OK},
		"no passes":          {nil, to(0, 0), 0, 0, api.ErrForm},
		"empty way":          {[]api.Pass{}, to(0, 0), 0, 0, api.ErrForm},
		"61 passes":          {make([]api.Pass, 61), to(0, 0), 0, 0, api.ErrLong},
		"long before place":  {append(long, pass(150, 9, 9)), to(0, 0), 0, 0, api.ErrLong},
		"place before hours": {[]api.Pass{pass(0, 0, 0), pass(150, 9, 9)}, to(0, 0), 0, 0, api.ErrNone},
		"place below 0":      {[]api.Pass{pass(-1, 0, 0)}, to(0, 0), 0, 0, api.ErrNone},
		"hours too late":     {[]api.Pass{pass(0, 0, 4)}, to(0, 0), 0, 0, api.ErrRange},
		"hours below 0":      {[]api.Pass{pass(0, -1, 1)}, to(0, 0), 0, 0, api.ErrRange},
		"first error":        {[]api.Pass{pass(0, 2, 1), pass(-1, 0, 0)}, to(0, 0), 0, 0, api.ErrRange},
	} {
		got, number, hour, e := river.Shallowest(example(), forecast(), c.way)
		if got != c.want || number != c.pass || hour != c.hour || e != c.e {
			t.Errorf("%s: %v, pass %d, hour %d, error %d", name, got, number, hour, e)
		}
	}
}

// P1.8: High is the least one, of all passes, of the greatest High in the hours of a pass: a tow may wait for a deep hour, but must pass everywhere.
func TestShallowestHigh(t *testing.T) {
	r := longRiver(2)
	r.Reaches[0].Curve = []api.RateRow{{}, {Flow: 100, Level: 100}}
	r.Reaches[1].Curve, r.Reaches[1].Bottom = r.Reaches[0].Curve, to(2, 3)
	sides := [][]api.Bounds{{to(10, 20), to(30, 40), to(5, 60)}, {to(0, 0), to(0, 0), to(0, 0)}}
	for _, c := range []struct {
		way        []api.Pass
		want       api.Bounds
		pass, hour int
	}{
		{[]api.Pass{pass(0, 0, 1)}, to(10, 40), 0, 0},
		{[]api.Pass{pass(0, 0, 2)}, to(5, 60), 0, 2},
		{[]api.Pass{pass(0, 0, 1), pass(1, 0, 0)}, to(7, 18), 1, 0},
		{[]api.Pass{pass(0, 2, 2), pass(1, 2, 2), pass(1, 1, 1)}, to(2, 38), 1, 2},
	} {
		got, number, hour, e := river.Shallowest(r, sides, c.way)
		if got != c.want || number != c.pass || hour != c.hour || e != api.OK {
			t.Errorf("%v: %v, pass %d, hour %d, error %d", c.way, got, number, hour, e)
		}
	}
}

// P1.8: on a way that is dry throughout, the first pass and its first hour are meant.
func TestShallowestDry(t *testing.T) {
	r := longRiver(1)
	got, number, hour, e := river.Shallowest(r, [][]api.Bounds{hours(3, to(0, 0))}, []api.Pass{pass(0, 1, 2), pass(0, 0, 0)})
	if got != to(0, 0) || number != 0 || hour != 1 || e != api.OK {
		t.Errorf("%v, pass %d, hour %d, error %d", got, number, hour, e)
	}
}
