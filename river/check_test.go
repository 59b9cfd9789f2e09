package river_test

import (
	"slices"
	"testing"

	"thalweg/api"
	"thalweg/river"
)

// curve returns a curve of n rows that rises as slowly as it can.
func curve(n int) []api.RateRow {
	rows := make([]api.RateRow, n)
	for i := range rows {
		rows[i].Flow = i
	}
	return rows
}

// longRiver returns a river of n short reaches.
func longRiver(n int) api.River {
	return api.River{Reaches: slices.Repeat([]api.Reach{{Length: 1, Curve: curve(2)}}, n)}
}

// P1.1: a river with all its numbers at the ends of what is allowed is valid.
func TestCheckAllowsLimits(t *testing.T) {
	for name, change := range map[string]func(r *api.River){
		"as it is":      func(r *api.River) {},
		"one reach":     func(r *api.River) { *r = longRiver(1) },
		"20 reaches":    func(r *api.River) { *r = longRiver(20) },
		"no shoals":     func(r *api.River) { r.Shoals = nil },
		"empty shoals":  func(r *api.River) { r.Shoals = []api.Shoal{} },
		"40 shoals":     func(r *api.River) { r.Shoals = make([]api.Shoal, 40) },
		"length 1":      func(r *api.River) { r.Reaches[1].Length, r.Shoals = 1, nil },
		"length 5000":   func(r *api.River) { r.Reaches[0].Length = 5000; r.Shoals[0].Place = 5049 },
		"delay 0":       func(r *api.River) { r.Reaches[0].Delay = 0 },
		"delay 200":     func(r *api.River) { r.Reaches[1].Delay = 200 },
		"base":          func(r *api.River) { r.Reaches[0].Base = to(0, 10000000000) },
		"base at 0":     func(r *api.River) { r.Reaches[0].Base = to(0, 0) },
		"30 rows":       func(r *api.River) { r.Reaches[0].Curve = curve(30) },
		"greatest row":  func(r *api.River) { r.Reaches[0].Curve[1] = api.RateRow{Flow: 10000000000, Level: 10000} },
		"level curve":   func(r *api.River) { r.Reaches[0].Curve[1].Level = 100 },
		"weir 10000":    func(r *api.River) { r.Reaches[0].Weir = 10000 },
		"bottom":        func(r *api.River) { r.Reaches[0].Bottom = to(0, 10000) },
		"flood 0":       func(r *api.River) { r.Reaches[0].Flood = 0 },
		"flood 10000":   func(r *api.River) { r.Reaches[0].Flood = 10000 },
		"first place":   func(r *api.River) { r.Shoals[0].Place = 0 },
		"last place":    func(r *api.River) { r.Shoals[0].Place = 149 },
		"bed":           func(r *api.River) { r.Shoals[0].Bed = to(0, 10000) },
		"sounded first": func(r *api.River) { r.Shoals[0].Sounded = -400 },
		"sounded last":  func(r *api.River) { r.Shoals[0].Sounded = 400 },
		"grow":          func(r *api.River) { r.Shoals[0].Grow = to(-500, 500) },
	} {
		r := example()
		change(&r)
		if e := river.Check(r); e != api.OK {
			t.Errorf("%s: Check returns %d", name, e)
		}
	}
}

// invalidRivers are changes that each make the river of the examples invalid in one way.
var invalidRivers = map[string]func(r *api.River){
	"no reaches":        func(r *api.River) { *r = api.River{} },
	"21 reaches":        func(r *api.River) { *r = longRiver(21) },
	"41 shoals":         func(r *api.River) { r.Shoals = make([]api.Shoal, 41) },
	"length 0":          func(r *api.River) { r.Reaches[1].Length, r.Shoals = 0, nil },
	"length below 0":    func(r *api.River) { r.Reaches[1].Length, r.Shoals = -1, nil },
	"length 5001":       func(r *api.River) { r.Reaches[0].Length = 5001 },
	"delay -1":          func(r *api.River) { r.Reaches[1].Delay = -1 },
	"delay 201":         func(r *api.River) { r.Reaches[1].Delay = 201 },
	"base upside down":  func(r *api.River) { r.Reaches[0].Base = to(2, 1) },
	"base below 0":      func(r *api.River) { r.Reaches[0].Base = to(-1, 1) },
	"base too great":    func(r *api.River) { r.Reaches[0].Base = to(0, 10000000001) },
	"no curve":          func(r *api.River) { r.Reaches[0].Curve = nil },
	"one row":           func(r *api.River) { r.Reaches[0].Curve = curve(1) },
	"31 rows":           func(r *api.River) { r.Reaches[0].Curve = curve(31) },
	"flow below 0":      func(r *api.River) { r.Reaches[0].Curve[0].Flow = -1 },
	"flow too great":    func(r *api.River) { r.Reaches[0].Curve[1].Flow = 10000000001 },
	"flow twice":        func(r *api.River) { r.Reaches[0].Curve[1].Flow = 0 },
	"flow descends":     func(r *api.River) { r.Reaches[0].Curve[0].Flow = 10001 },
	"last row descends": func(r *api.River) { r.Reaches[0].Curve = append(curve(4), api.RateRow{Flow: 2}) },
	"level descends":    func(r *api.River) { r.Reaches[0].Curve[1].Level = 99 },
	"level below 0":     func(r *api.River) { r.Reaches[0].Curve[0].Level = -1 },
	"level too great":   func(r *api.River) { r.Reaches[0].Curve[1].Level = 10001 },
	"weir below 0":      func(r *api.River) { r.Reaches[1].Weir = -1 },
	"weir too great":    func(r *api.River) { r.Reaches[1].Weir = 10001 },
	"bottom below 0":    func(r *api.River) { r.Reaches[1].Bottom = to(-1, 1) },
	"bottom too great":  func(r *api.River) { r.Reaches[1].Bottom = to(1, 10001) },
	"bottom descends":   func(r *api.River) { r.Reaches[1].Bottom = to(3, 2) },
	"flood below 0":     func(r *api.River) { r.Reaches[1].Flood = -1 },
	"flood too great":   func(r *api.River) { r.Reaches[1].Flood = 10001 },
	"place -1":          func(r *api.River) { r.Shoals[0].Place = -1 },
	"place 150":         func(r *api.River) { r.Shoals[0].Place = 150 },
	"bed below 0":       func(r *api.River) { r.Shoals[0].Bed = to(-1, 1) },
	"bed too great":     func(r *api.River) { r.Shoals[0].Bed = to(1, 10001) },
	"bed descends":      func(r *api.River) { r.Shoals[0].Bed = to(2, 1) },
	"sounded -401":      func(r *api.River) { r.Shoals[0].Sounded = -401 },
	"sounded 401":       func(r *api.River) { r.Shoals[0].Sounded = 401 },
	"grow -501":         func(r *api.River) { r.Shoals[0].Grow = to(-501, 0) },
	"grow 501":          func(r *api.River) { r.Shoals[0].Grow = to(0, 501) },
	"grow descends":     func(r *api.River) { r.Shoals[0].Grow = to(1, 0) },
}

// P1.1: all functions with a river return its error before any other one.
func TestInvalidRivers(t *testing.T) {
	for name, change := range invalidRivers {
		r := example()
		change(&r)
		want := outcome{api.ErrArg, true}
		if e := river.Check(r); e != api.ErrArg {
			t.Errorf("%s: Check returns %d", name, e)
		}
		for _, hour := range []int{0, 999} {
			if bed, e := river.Bed(r, 0, hour); outcomeOf(e, bed) != want {
				t.Errorf("%s: Bed in the hour %d returns %v, error %d", name, hour, bed, e)
			}
		}
		for _, sides := range [][][]api.Bounds{nil, forecast()} {
			for call, got := range forecastCalls(r, sides) {
				if got != want {
					t.Errorf("%s: %s returns %v", name, call, got)
				}
			}
			for call, got := range wrongCalls(r, sides) {
				if got != want {
					t.Errorf("%s, all else wrong: %s returns %v", name, call, got)
				}
			}
		}
	}
}

// P1.1: all functions with a forecast return its error after that of the river, and before their own.
func TestForecasts(t *testing.T) {
	ok, bad := to(1, 2), to(2, 1)
	for name, c := range map[string]struct {
		sides [][]api.Bounds
		e     api.Errno
	}{
		"as it is":            {forecast(), api.OK},
		"one hour":            {[][]api.Bounds{{ok}, {ok}}, api.OK},
		"400 hours":           {[][]api.Bounds{hours(400, ok), hours(400, ok)}, api.OK},
		"greatest flow":       {[][]api.Bounds{{to(0, 0)}, {to(10000000000, 10000000000)}}, api.OK},
		"no lists":            {nil, api.ErrForm},
		"one list":            {[][]api.Bounds{{ok}}, api.ErrForm},
		"three lists":         {[][]api.Bounds{{ok}, {ok}, {ok}}, api.ErrForm},
		"no hours":            {[][]api.Bounds{nil, {}}, api.ErrForm},
		"first is shorter":    {[][]api.Bounds{{ok}, {ok, ok}}, api.ErrForm},
		"second is shorter":   {[][]api.Bounds{{ok, ok}, {ok}}, api.ErrForm},
		"second is empty":     {[][]api.Bounds{{ok, ok}, nil}, api.ErrForm},
		"form before others":  {[][]api.Bounds{hours(401, bad), hours(402, bad)}, api.ErrForm},
		"401 hours":           {[][]api.Bounds{hours(401, ok), hours(401, ok)}, api.ErrLong},
		"long before bounds":  {[][]api.Bounds{hours(401, bad), hours(401, bad)}, api.ErrLong},
		"bounds descend":      {[][]api.Bounds{{ok, bad}, {ok, ok}}, api.ErrArg},
		"bounds below 0":      {[][]api.Bounds{{ok, ok}, {ok, to(-1, 0)}}, api.ErrArg},
		"bounds too great":    {[][]api.Bounds{{ok, ok}, {ok, to(0, 10000000001)}}, api.ErrArg},
		"both ends are wrong": {[][]api.Bounds{{to(-3, -2)}, {ok}}, api.ErrArg},
	} {
		for call, got := range forecastCalls(example(), c.sides) {
			if got.e != c.e || c.e != api.OK && !got.zero {
				t.Errorf("%s: %s returns %v, not %d", name, call, got, c.e)
			}
		}
		for call, got := range wrongCalls(example(), c.sides) {
			if c.e != api.OK && got != (outcome{c.e, true}) {
				t.Errorf("%s, all else wrong: %s returns %v, not %d", name, call, got, c.e)
			}
		}
	}
}
