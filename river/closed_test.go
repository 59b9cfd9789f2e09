package river_test

import (
	"testing"

	"thalweg/api"
	"thalweg/river"
)

// shut returns a closure.
func shut(from, last int, begin, end api.Bounds) api.Closure {
	return api.Closure{From: from, To: last, Begin: begin, End: end}
}

// P1.9: closures that possibly and that surely close a place in an hour.
func TestClosures(t *testing.T) {
	one := []api.Closure{shut(100, 110, to(0, 2), to(3, 5))}
	for name, c := range map[string]struct {
		l                 []api.Closure
		place, hour       int
		possible, certain bool
	}{
		"none":           {nil, 100, 0, false, false},
		"it may begin":   {one, 110, 0, true, false},
		"it has begun":   {one, 100, 2, true, true},
		"it may end":     {one, 105, 3, true, false},
		"places before":  {one, 99, 2, false, false},
		"places behind":  {one, 111, 2, false, false},
		"not yet":        {[]api.Closure{shut(100, 110, to(1, 2), to(3, 5))}, 105, 0, false, false},
		"may be the end": {[]api.Closure{shut(100, 110, to(0, 0), to(1, 3))}, 105, 2, true, false},
		"is the end":     {[]api.Closure{shut(100, 110, to(0, 0), to(1, 2))}, 105, 2, false, false},
		"may be empty":   {[]api.Closure{shut(100, 149, to(0, 2), to(1, 1))}, 105, 0, true, false},
		"is empty":       {[]api.Closure{shut(100, 149, to(1, 1), to(1, 1))}, 105, 1, false, false},
		"ends too early": {[]api.Closure{shut(100, 149, to(3, 3), to(0, 1))}, 105, 2, false, false},
		"of two one is sure": {
			[]api.Closure{shut(100, 149, to(0, 2), to(0, 3)), shut(100, 149, to(-9, 1), to(2, 2))}, 105, 1, true, true,
		},
		"of two none is sure": {
			[]api.Closure{shut(100, 149, to(0, 1), to(2, 2)), shut(100, 149, to(0, 0), to(0, 2))}, 105, 0, true, false,
		},
		"of two one is elsewhere": {
			[]api.Closure{shut(0, 99, to(0, 0), to(3, 3)), shut(100, 149, to(0, 1), to(2, 2))}, 105, 0, true, false,
		},
	} {
		possibly, surely, e := river.Closed(example(), forecast(), c.l, c.place, c.hour)
		if possibly != c.possible || surely != c.certain || e != api.OK {
			t.Errorf("%s: %t, %t, error %d", name, possibly, surely, e)
		}
	}
}

// P1.9: a reach whose level is possibly, or surely, greater than Flood is closed without any closure.
func TestClosedByFlood(t *testing.T) {
	for flood, want := range map[int][2]bool{139: {true, true}, 140: {true, false}, 159: {true, false}, 160: {false, false}} {
		r := example()
		r.Reaches[0].Flood = flood
		possibly, surely, e := river.Closed(r, forecast(), nil, 99, 3)
		if [2]bool{possibly, surely} != want || e != api.OK {
			t.Errorf("flood %d: %t, %t, error %d", flood, possibly, surely, e)
		}
		possibly, surely, e = river.Closed(r, forecast(), nil, 100, 3)
		if possibly || surely || e != api.OK {
			t.Errorf("flood %d, another reach: %t, %t, error %d", flood, possibly, surely, e)
		}
	}
}

// P1.9: the errors, in their order.
func TestClosedErrors(t *testing.T) {
	one := []api.Closure{shut(0, 0, to(0, 0), to(0, 0))}
	for name, c := range map[string]struct {
		l           []api.Closure
		place, hour int
		e           api.Errno
	}{
		"40 closures":         {make([]api.Closure, 40), 0, 0, api.OK},
		"41 closures":         {make([]api.Closure, 41), 999, 0, api.ErrLong},
		"long before others":  {append(make([]api.Closure, 40), shut(2, 1, to(0, 0), to(0, 0))), 999, 9, api.ErrLong},
		"all places":          {[]api.Closure{shut(0, 149, to(0, 0), to(0, 0))}, 0, 0, api.OK},
		"earliest":            {[]api.Closure{shut(0, 0, to(-400, -400), to(-400, -400))}, 0, 0, api.OK},
		"latest":              {[]api.Closure{shut(0, 0, to(800, 800), to(800, 800))}, 0, 0, api.OK},
		"from below 0":        {[]api.Closure{shut(-1, 1, to(0, 0), to(0, 0))}, 0, 0, api.ErrArg},
		"to behind the river": {[]api.Closure{shut(0, 150, to(0, 0), to(0, 0))}, 0, 0, api.ErrArg},
		"both behind it":      {[]api.Closure{shut(150, 150, to(0, 0), to(0, 0))}, 0, 0, api.ErrArg},
		"to before from":      {[]api.Closure{shut(2, 1, to(0, 0), to(0, 0))}, 0, 0, api.ErrArg},
		"begin too early":     {[]api.Closure{shut(0, 0, to(-401, 0), to(0, 0))}, 0, 0, api.ErrArg},
		"begin too late":      {[]api.Closure{shut(0, 0, to(0, 801), to(0, 0))}, 0, 0, api.ErrArg},
		"begin descends":      {[]api.Closure{shut(0, 0, to(1, 0), to(0, 0))}, 0, 0, api.ErrArg},
		"end too early":       {[]api.Closure{shut(0, 0, to(0, 0), to(-401, 0))}, 0, 0, api.ErrArg},
		"end too late":        {[]api.Closure{shut(0, 0, to(0, 0), to(0, 801))}, 0, 0, api.ErrArg},
		"end descends":        {[]api.Closure{shut(0, 0, to(0, 0), to(1, 0))}, 0, 0, api.ErrArg},
		"second is wrong":     {append(one, shut(2, 1, to(0, 0), to(0, 0))), 150, 9, api.ErrArg},
		"place behind":        {one, 150, 9, api.ErrNone},
		"place below 0":       {nil, -1, 4, api.ErrNone},
		"hour too late":       {nil, 0, 4, api.ErrRange},
		"hour below 0":        {one, 0, -1, api.ErrRange},
	} {
		possibly, surely, e := river.Closed(example(), forecast(), c.l, c.place, c.hour)
		if possibly || surely || e != c.e {
			t.Errorf("%s: %t, %t, error %d; want %d", name, possibly, surely, e, c.e)
		}
	}
	r := example()
	r.Reaches[0].Flood = 0
	if possibly, surely, e := river.Closed(r, forecast(), nil, 0, 9); possibly || surely || e != api.ErrRange {
		t.Errorf("flooded: %t, %t, error %d", possibly, surely, e)
	}
}
