package hull_test

import (
	"testing"

	"thalweg/api"
	"thalweg/hull"
)

// rows returns a curve of n rows that rises as slowly as it can.
func rows(n int) []api.HullRow {
	list := make([]api.HullRow, n)
	for i := range list {
		list[i] = row(i, i)
	}
	return list
}

// long returns a hull of sections with these lengths, without holds.
func long(lengths ...int) api.Hull {
	h := api.Hull{Lot: 100}
	for _, n := range lengths {
		x := section()
		x.Length, x.Holds = n, nil
		h.Sections = append(h.Sections, x)
	}
	return h
}

// P2.1: a hull with its numbers at the ends of what is allowed is valid.
func TestCheckAllowsLimits(t *testing.T) {
	for name, change := range map[string]func(h *api.Hull){
		"as it is":          func(h *api.Hull) {},
		"lot 1":             func(h *api.Hull) { h.Lot = 1 },
		"lot 1000":          func(h *api.Hull) { h.Lot = 1000 },
		"one section":       func(h *api.Hull) { h.Sections = h.Sections[:1] },
		"6 sections":        func(h *api.Hull) { *h = long(1, 1, 1, 1, 1, 1) },
		"200 meters":        func(h *api.Hull) { *h = long(100, 99, 1) },
		"length 1":          func(h *api.Hull) { h.Sections[0].Length, h.Sections[0].Holds = 1, nil },
		"length 100":        func(h *api.Hull) { h.Sections[0].Length = 100 },
		"light 0":           func(h *api.Hull) { h.Sections[0].Light = 0 },
		"light 10000":       func(h *api.Hull) { h.Sections[1].Light = 10000 },
		"trim 1":            func(h *api.Hull) { h.Sections[0].Trim = 1 },
		"trim 100000":       func(h *api.Hull) { h.Sections[0].Trim = 100000 },
		"2 rows":            func(h *api.Hull) { h.Sections[0].Curve = rows(2) },
		"20 rows":           func(h *api.Hull) { h.Sections[0].Curve = rows(20) },
		"greatest row":      func(h *api.Hull) { h.Sections[1].Curve[2] = row(1000, 100000) },
		"no holds":          func(h *api.Hull) { h.Sections[0].Holds, h.Sections[1].Holds = nil, nil },
		"empty holds":       func(h *api.Hull) { h.Sections[0].Holds = []api.HullHold{} },
		"4 holds":           func(h *api.Hull) { h.Sections[1].Holds = []api.HullHold{at(3, 1), at(2, 1), at(2, 1)} },
		"4 in one section":  func(h *api.Hull) { h.Sections[0].Holds, h.Sections[1].Holds = make([]api.HullHold, 4), nil },
		"at the fore end":   func(h *api.Hull) { h.Sections[0].Holds[0].At = 0 },
		"at the aft end":    func(h *api.Hull) { h.Sections[0].Holds[0].At = 30 },
		"hold for 0 lots":   func(h *api.Hull) { h.Sections[0].Holds[0].Lots = 0 },
		"hold for 20 lots":  func(h *api.Hull) { h.Sections[0].Holds[0].Lots = 20 },
		"different lengths": func(h *api.Hull) { h.Sections[1].Length, h.Sections[1].Holds[0].At = 60, 60 },
	} {
		h := example()
		change(&h)
		if e := hull.Check(h); e != api.OK {
			t.Errorf("%s: Check returns %d", name, e)
		}
	}
}

// invalidHulls are changes that each make the hull of the examples invalid in one way.
var invalidHulls = map[string]func(h *api.Hull){
	"zero value":        func(h *api.Hull) { *h = api.Hull{} },
	"lot 0":             func(h *api.Hull) { h.Lot = 0 },
	"lot below 0":       func(h *api.Hull) { h.Lot = -1 },
	"lot 1001":          func(h *api.Hull) { h.Lot = 1001 },
	"no sections":       func(h *api.Hull) { h.Sections = nil },
	"empty sections":    func(h *api.Hull) { h.Sections = []api.HullSection{} },
	"7 sections":        func(h *api.Hull) { *h = long(1, 1, 1, 1, 1, 1, 1) },
	"201 meters":        func(h *api.Hull) { *h = long(100, 100, 1) },
	"length 0":          func(h *api.Hull) { h.Sections[0].Length, h.Sections[0].Holds = 0, nil },
	"length below 0":    func(h *api.Hull) { h.Sections[1].Length, h.Sections[1].Holds = -1, nil },
	"length 101":        func(h *api.Hull) { h.Sections[1].Length = 101 },
	"light below 0":     func(h *api.Hull) { h.Sections[0].Light = -1 },
	"light 10001":       func(h *api.Hull) { h.Sections[1].Light = 10001 },
	"trim 0":            func(h *api.Hull) { h.Sections[0].Trim = 0 },
	"trim below 0":      func(h *api.Hull) { h.Sections[1].Trim = -50 },
	"trim 100001":       func(h *api.Hull) { h.Sections[0].Trim = 100001 },
	"no curve":          func(h *api.Hull) { h.Sections[0].Curve = nil },
	"one row":           func(h *api.Hull) { h.Sections[0].Curve = rows(1) },
	"21 rows":           func(h *api.Hull) { h.Sections[1].Curve = rows(21) },
	"first draft 1":     func(h *api.Hull) { h.Sections[0].Curve[0] = row(1, 0) },
	"first volume 1":    func(h *api.Hull) { h.Sections[0].Curve[0] = row(0, 1) },
	"below 0":           func(h *api.Hull) { h.Sections[0].Curve[0] = row(-1, -1) },
	"equal drafts":      func(h *api.Hull) { h.Sections[0].Curve[1].Draft = 300 },
	"draft descends":    func(h *api.Hull) { h.Sections[0].Curve[1].Draft = 301 },
	"draft stays 0":     func(h *api.Hull) { h.Sections[0].Curve[1].Draft = 0 },
	"equal volumes":     func(h *api.Hull) { h.Sections[1].Curve[2].Volume = 300 },
	"volume descends":   func(h *api.Hull) { h.Sections[1].Curve[2].Volume = 299 },
	"draft 1001":        func(h *api.Hull) { h.Sections[1].Curve[2].Draft = 1001 },
	"volume 100001":     func(h *api.Hull) { h.Sections[1].Curve[2].Volume = 100001 },
	"5 holds":           func(h *api.Hull) { h.Sections[1].Holds = make([]api.HullHold, 4) },
	"5 in one section":  func(h *api.Hull) { h.Sections[0].Holds, h.Sections[1].Holds = nil, make([]api.HullHold, 5) },
	"before the end":    func(h *api.Hull) { h.Sections[0].Holds[0].At = -1 },
	"behind the end":    func(h *api.Hull) { h.Sections[1].Holds[0].At = 31 },
	"lots below 0":      func(h *api.Hull) { h.Sections[0].Holds[0].Lots = -1 },
	"hold for 21 lots":  func(h *api.Hull) { h.Sections[1].Holds[0].Lots = 21 },
	"second hold wrong": func(h *api.Hull) { h.Sections[1].Holds = []api.HullHold{at(0, 0), at(0, 21)} },
}

// P2.1 and R1: an invalid hull has ErrArg, before all other errors.
func TestInvalidHulls(t *testing.T) {
	for name, change := range invalidHulls {
		h := example()
		change(&h)
		if e := hull.Check(h); e != api.ErrArg {
			t.Errorf("%s: Check returns %d", name, e)
		}
		volume, e := hull.Volume(h, -1)
		expect(t, name+": Volume", outcomeOf(e, volume), api.ErrArg)
		wrong := call{h, []int{9, 9, 9}, to(2, 1), api.Passage{Keel: -1}}
		expect(t, name+": Float", wrong.float(), api.ErrArg)
		expect(t, name+": Safe", wrong.safe(), api.ErrArg)
		expect(t, name+": Advise", wrong.advise(), api.ErrArg)
		expect(t, name+": Later", wrong.later(), api.ErrArg)
		part, e := hull.Cut(h, 2, 1)
		expect(t, name+": Cut", outcomeOf(e, part), api.ErrArg)
		other := example()
		other.Lot = 7
		whole, e := hull.Weld(h, other)
		expect(t, name+": Weld, first", outcomeOf(e, whole), api.ErrArg)
		whole, e = hull.Weld(other, h)
		expect(t, name+": Weld, second", outcomeOf(e, whole), api.ErrArg)
	}
}
