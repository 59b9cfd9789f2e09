package tow_test

import (
	"testing"

	"thalweg/api"
	"thalweg/tow"
)

// P3.5: a voyage with its numbers at the ends of what is allowed is valid.
func TestCheckAllowsLimits(t *testing.T) {
	for name, change := range map[string]func(v *api.Voyage){
		"as it is":        func(v *api.Voyage) {},
		"up":              func(v *api.Voyage) { *v = upward() },
		"start 0":         func(v *api.Voyage) { v.Start = at(0) },
		"start 1000000":   func(v *api.Voyage) { v.Start = to(0, 1000000) },
		"20 runs down":    func(v *api.Voyage) { *v = long(20, 0, 5000) },
		"20 runs up":      func(v *api.Voyage) { *v = long(20, 20, -1) },
		"whole river":     func(v *api.Voyage) { v.Runs[0].To = 100000 },
		"whole river up":  func(v *api.Voyage) { v.Runs[0].From, v.Runs[0].To = 100000, 0 },
		"one hectometer":  func(v *api.Voyage) { v.Runs[0].To = 1 },
		"speed 1 to 400":  func(v *api.Voyage) { v.Runs[0].Speed = to(1, 400) },
		"wait 0 to 5000":  func(v *api.Voyage) { v.Runs[0].Wait = to(0, 5000) },
		"length 1":        func(v *api.Voyage) { v.Length = 1 },
		"length 3000":     func(v *api.Voyage) { v.Length = 3000 },
		"width 1":         func(v *api.Voyage) { v.Width = 1 },
		"width 200":       func(v *api.Voyage) { v.Width = 200 },
		"other run waits": func(v *api.Voyage) { v.Runs = append(v.Runs, run(100, 101, at(400), at(5000))) },
	} {
		v := downward()
		change(&v)
		if e := tow.Check(v); e != api.OK {
			t.Errorf("%s: Check returns %d", name, e)
		}
	}
}

// invalidVoyages are changes that each make the voyage of example 4 invalid in one way.
var invalidVoyages = map[string]func(v *api.Voyage){
	"zero value":        func(v *api.Voyage) { *v = api.Voyage{} },
	"start below 0":     func(v *api.Voyage) { v.Start.Low = -1 },
	"start 1000001":     func(v *api.Voyage) { v.Start.High = 1000001 },
	"start upside down": func(v *api.Voyage) { v.Start = to(2, 1) },
	"no runs":           func(v *api.Voyage) { v.Runs = nil },
	"empty runs":        func(v *api.Voyage) { v.Runs = []api.Run{} },
	"21 runs":           func(v *api.Voyage) { *v = long(21, 0, 1) },
	"from below 0":      func(v *api.Voyage) { v.Runs[0].From = -1 },
	"from 100001":       func(v *api.Voyage) { v.Runs[0].From = 100001 },
	"to below 0":        func(v *api.Voyage) { v.Runs[0].From, v.Runs[0].To = 10, -1 },
	"to 100001":         func(v *api.Voyage) { v.Runs[0].To = 100001 },
	"no way":            func(v *api.Voyage) { v.Runs[0].To = 0 },
	"speed 0":           func(v *api.Voyage) { v.Runs[0].Speed.Low = 0 },
	"speed 401":         func(v *api.Voyage) { v.Runs[0].Speed.High = 401 },
	"speed upside down": func(v *api.Voyage) { v.Runs[0].Speed = to(60, 50) },
	"wait -1":           func(v *api.Voyage) { v.Runs[0].Wait.Low = -1 },
	"wait 5001":         func(v *api.Voyage) { v.Runs[0].Wait.High = 5001 },
	"wait upside down":  func(v *api.Voyage) { v.Runs[0].Wait = to(3, 2) },
	"gap":               func(v *api.Voyage) { v.Runs = append(v.Runs, run(101, 110, at(50), at(0))) },
	"overlap":           func(v *api.Voyage) { v.Runs = append(v.Runs, run(99, 110, at(50), at(0))) },
	"back":              func(v *api.Voyage) { v.Runs = append(v.Runs, run(100, 90, at(50), at(0))) },
	"up and then down":  func(v *api.Voyage) { v.Runs = []api.Run{run(9, 5, at(1), at(0)), run(5, 9, at(1), at(0))} },
	"back at last":      func(v *api.Voyage) { *v = long(3, 0, 5); v.Runs[2].To = 9 },
	"gap at last":       func(v *api.Voyage) { *v = long(3, 0, 5); v.Runs[2].From = 11 },
	"last run is wrong": func(v *api.Voyage) { *v = long(3, 0, 5); v.Runs[2].Speed.Low = 0 },
	"last has no way":   func(v *api.Voyage) { *v = long(3, 0, 5); v.Runs[2].To = 10 },
	"length 0":          func(v *api.Voyage) { v.Length = 0 },
	"length 3001":       func(v *api.Voyage) { v.Length = 3001 },
	"width 0":           func(v *api.Voyage) { v.Width = 0 },
	"width 201":         func(v *api.Voyage) { v.Width = 201 },
}

// P3.5 and R1: an invalid voyage has ErrArg, before all other errors of the functions with single voyages.
func TestInvalidVoyages(t *testing.T) {
	for name, change := range invalidVoyages {
		v := downward()
		change(&v)
		if e := tow.Check(v); e != api.ErrArg {
			t.Errorf("%s: Check returns %d", name, e)
		}
		expect(t, name+": Arrive", arrive(v, 50), api.ErrArg)
		expect(t, name+": Arrive nowhere", arrive(v, -1), api.ErrArg)
		expect(t, name+": Through", through(v, narrow(40, 50)), api.ErrArg)
		expect(t, name+": Through nothing", through(v, api.Narrow{}), api.ErrArg)
		expect(t, name+": Through a part", through(v, narrow(90, 100)), api.ErrArg)
		for _, n := range []api.Narrow{narrow(40, 50), narrow(90, 100), {}} {
			expect(t, name+": Meet as first", meet(v, upward(), n), api.ErrArg)
			expect(t, name+": Meet as second", meet(upward(), v, n), api.ErrArg)
			expect(t, name+": Meet as both", meet(v, v, n), api.ErrArg)
		}
	}
}

// invalidNarrows are changes that each make a narrow invalid in one way.
var invalidNarrows = map[string]func(n *api.Narrow){
	"zero value":   func(n *api.Narrow) { *n = api.Narrow{} },
	"from below 0": func(n *api.Narrow) { n.From = -1 },
	"from 100001":  func(n *api.Narrow) { n.From, n.To = 100001, 100002 },
	"to 100001":    func(n *api.Narrow) { n.To = 100001 },
	"no way":       func(n *api.Narrow) { n.To = n.From },
	"upside down":  func(n *api.Narrow) { n.From, n.To = n.To, n.From },
	"width 0":      func(n *api.Narrow) { n.Width = 0 },
	"width -1":     func(n *api.Narrow) { n.Width, n.Single = -1, true },
	"width 201":    func(n *api.Narrow) { n.Width = 201 },
}

// P3.6 and P3.7: an invalid narrow has ErrArg, even where no voyage is.
func TestInvalidNarrows(t *testing.T) {
	for name, change := range invalidNarrows {
		n := narrow(40, 50)
		change(&n)
		far := voyage(at(0), 100, run(1000, 1001, at(1), at(0)))
		for _, v := range []api.Voyage{downward(), upward(), far} {
			expect(t, name+": Through", through(v, n), api.ErrArg)
			expect(t, name+": Meet", meet(v, upward(), n), api.ErrArg)
		}
	}
	for name, n := range map[string]api.Narrow{
		"from 0":    {From: 0, To: 50, Width: 20},
		"to 100000": {From: 99000, To: 100000, Width: 20},
		"one place": {From: 40, To: 41, Width: 20},
		"width 1":   {From: 40, To: 50, Width: 1},
		"width 200": {From: 40, To: 50, Width: 200, Single: true},
	} {
		expect(t, name, through(steady(at(0), 100, 2000, 3000), n), api.OK)
	}
}
