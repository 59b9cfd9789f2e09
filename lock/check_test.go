package lock_test

import (
	"slices"
	"testing"

	"thalweg/api"
	"thalweg/lock"
)

// validLocks are changes that each leave the lock of the examples valid.
var validLocks = map[string]func(l *api.Lock){
	"as it is":     func(l *api.Lock) {},
	"high":         func(l *api.Lock) { l.High = true },
	"length 1":     func(l *api.Lock) { l.Length = 1 },
	"length 500":   func(l *api.Lock) { l.Length = 500 },
	"cycle 1":      func(l *api.Lock) { l.Cycle = 1 },
	"cycle 500":    func(l *api.Lock) { l.Cycle = 500 },
	"turn 0":       func(l *api.Lock) { l.Turn = 0 },
	"turn 500":     func(l *api.Lock) { l.Turn = 500 },
	"fill 0":       func(l *api.Lock) { l.Fill = 0 },
	"fill 1000000": func(l *api.Lock) { l.Fill = 1000000 },
	"save 0":       func(l *api.Lock) { l.Save = 0 },
	"save 90":      func(l *api.Lock) { l.Save = 90 },
}

// invalidLocks are changes that each make the lock of the examples invalid in one way.
var invalidLocks = map[string]func(l *api.Lock){
	"zero value":   func(l *api.Lock) { *l = api.Lock{} },
	"length 0":     func(l *api.Lock) { l.Length = 0 },
	"length -1":    func(l *api.Lock) { l.Length = -1 },
	"length 501":   func(l *api.Lock) { l.Length = 501 },
	"cycle 0":      func(l *api.Lock) { l.Cycle = 0 },
	"cycle -1":     func(l *api.Lock) { l.Cycle = -1 },
	"cycle 501":    func(l *api.Lock) { l.Cycle = 501 },
	"turn -1":      func(l *api.Lock) { l.Turn = -1 },
	"turn 501":     func(l *api.Lock) { l.Turn = 501 },
	"fill -1":      func(l *api.Lock) { l.Fill = -1 },
	"fill 1000001": func(l *api.Lock) { l.Fill = 1000001 },
	"save -1":      func(l *api.Lock) { l.Save = -1 },
	"save 91":      func(l *api.Lock) { l.Save = 91 },
}

// validTows are changes that each leave a tow valid for the lock of the examples.
var validTows = map[string]func(x *api.LockTow){
	"as it is":      func(x *api.LockTow) {},
	"down":          func(x *api.LockTow) { x.Up = false },
	"arrive 0":      func(x *api.LockTow) { x.Arrive = 0 },
	"arrive 100000": func(x *api.LockTow) { x.Arrive = 100000 },
	"length 1":      func(x *api.LockTow) { x.Length = 1 },
	"length 300":    func(x *api.LockTow) { x.Length = 300 },
	"weight 0":      func(x *api.LockTow) { x.Weight = 0 },
	"weight 100":    func(x *api.LockTow) { x.Weight = 100 },
	"push 0":        func(x *api.LockTow) { x.Push = 0 },
	"push 100000":   func(x *api.LockTow) { x.Push = 100000 },
}

// invalidTows are changes that each make a tow invalid in one way for the lock of the examples.
var invalidTows = map[string]func(x *api.LockTow){
	"zero value":    func(x *api.LockTow) { *x = api.LockTow{} },
	"arrive -1":     func(x *api.LockTow) { x.Arrive = -1 },
	"arrive 100001": func(x *api.LockTow) { x.Arrive = 100001 },
	"length 0":      func(x *api.LockTow) { x.Length = 0 },
	"length -1":     func(x *api.LockTow) { x.Length = -1 },
	"length 301":    func(x *api.LockTow) { x.Length = 301 },
	"weight -1":     func(x *api.LockTow) { x.Weight = -1 },
	"weight 101":    func(x *api.LockTow) { x.Weight = 101 },
	"push -1":       func(x *api.LockTow) { x.Push = -1 },
	"push 100001":   func(x *api.LockTow) { x.Push = 100001 },
}

// P4.1: a lock with its numbers at the ends of what is allowed is valid.
func TestValidLocks(t *testing.T) {
	for name, change := range validLocks {
		l := example()
		change(&l)
		if e := lock.Check(l); e != api.OK {
			t.Errorf("%s: Check returns %d", name, e)
		}
		expectAll(t, name, l, []api.LockTow{rising(0, 1)}, steps(up(1)), api.OK)
		expectAll(t, name+", no tows", l, nil, nil, api.OK)
	}
}

// P4.1 to P4.5: an invalid lock has ErrArg, before all other errors.
func TestInvalidLocks(t *testing.T) {
	for name, change := range invalidLocks {
		l := example()
		change(&l)
		if e := lock.Check(l); e != api.ErrArg {
			t.Errorf("%s: Check returns %d", name, e)
		}
		expectAll(t, name, l, []api.LockTow{rising(0, 1)}, steps(up(1)), api.ErrArg)
		expectAll(t, name+", no tows", l, nil, nil, api.ErrArg)
		expectAll(t, name+", no plan", l, []api.LockTow{rising(0, 1)}, nil, api.ErrArg)
		expectAll(t, name+", 9 tows", l, slices.Repeat(three(), 3), nil, api.ErrArg)
		expect(t, name+": Thrift, no plan", thrift(l, nil, -1), api.ErrArg)
	}
}

// P4.2 to P4.5: tows with their numbers at the ends of what is allowed are valid.
func TestValidTows(t *testing.T) {
	for name, change := range validTows {
		x := rising(7, 50)
		change(&x)
		expectAll(t, name, example(), []api.LockTow{x}, []api.LockStep{{Up: x.Up, Tows: 1}}, api.OK)
	}
	l := example()
	l.Length = 500
	expectAll(t, "longest of all", l, []api.LockTow{rising(0, 1500)}, steps(up(1)), api.OK)
	l.Length = 1
	expectAll(t, "three parts of 1 meter", l, []api.LockTow{rising(0, 3)}, steps(up(1)), api.OK)
	expectAll(t, "four parts of 1 meter", l, []api.LockTow{rising(0, 4)}, steps(up(1)), api.ErrArg)
}

// P4.2 to P4.5: an invalid tow has ErrArg, wherever it is, before the errors of the plan and ErrNone.
func TestInvalidTows(t *testing.T) {
	for name, change := range invalidTows {
		x := rising(7, 50)
		change(&x)
		for _, tows := range [][]api.LockTow{{x}, {x, rising(0, 1)}, {sinking(0, 1), x}, append(three(), x)} {
			expectAll(t, name, example(), tows, steps(up(1)), api.ErrArg)
			expectAll(t, name+", no plan", example(), tows, nil, api.ErrArg)
			expect(t, name+": Thrift, no plan", thrift(example(), tows, -1), api.ErrArg)
		}
	}
}

// P4.2 to P4.5: more than 8 tows have ErrLong, before all but the error of the lock.
func TestManyTows(t *testing.T) {
	for n := 7; n <= 20; n++ {
		e := api.OK
		if n > 8 {
			e = api.ErrLong
		}
		expectAll(t, "tows", example(), slices.Repeat([]api.LockTow{sinking(0, 100)}, n), slices.Repeat(steps(down(1)), n), e)
		if n > 8 {
			expectAll(t, "invalid tows", example(), make([]api.LockTow, n), nil, e)
			expect(t, "Thrift, no plan", thrift(example(), make([]api.LockTow, n), -1), e)
		}
	}
}
