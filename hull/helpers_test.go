package hull_test

import (
	"math/rand"
	"reflect"
	"slices"
	"testing"

	"thalweg/api"
	"thalweg/hull"
)

// to returns bounds.
func to(low, high int) api.Bounds { return api.Bounds{Low: low, High: high} }

// row returns a row of a curve.
func row(draft, volume int) api.HullRow { return api.HullRow{Draft: draft, Volume: volume} }

// at returns a hold.
func at(meters, lots int) api.HullHold { return api.HullHold{At: meters, Lots: lots} }

// section returns the section of the chapter's examples.
func section() api.HullSection {
	return api.HullSection{
		Length: 30, Light: 100, Trim: 50,
		Curve: []api.HullRow{row(0, 0), row(100, 300), row(300, 900)},
		Holds: []api.HullHold{at(15, 4)},
	}
}

// example returns the hull of the chapter's examples.
func example() api.Hull {
	return api.Hull{Lot: 100, Sections: []api.HullSection{section(), section()}}
}

// pass returns a pass of a way.
func pass(place, low, high int) api.Pass { return api.Pass{Place: place, Hours: to(low, high)} }

// passage returns the passage of the chapter's examples: its least depth is 80 to 110, in the hour 0 of the pass 0.
func passage() api.Passage {
	return api.Passage{
		River: api.River{
			Reaches: []api.Reach{
				{
					Length: 100, Delay: 2, Base: to(1000, 1000),
					Curve:  []api.RateRow{{Flow: 0, Level: 100}, {Flow: 10000, Level: 300}},
					Bottom: to(50, 60), Flood: 400,
				},
				{
					Length: 50, Delay: 1, Base: to(2000, 2000),
					Curve: []api.RateRow{{Flow: 0, Level: 0}, {Flow: 20000, Level: 400}},
					Weir:  150, Bottom: to(20, 20), Flood: 160,
				},
			},
			Shoals: []api.Shoal{{Place: 120, Bed: to(40, 50), Grow: to(0, 12)}},
		},
		Sides: [][]api.Bounds{slices.Repeat([]api.Bounds{to(2000, 3000)}, 4), slices.Repeat([]api.Bounds{to(500, 500)}, 4)},
		Way:   []api.Pass{pass(10, 0, 1), pass(120, 2, 3)},
		Keel:  20,
	}
}

// canal returns a passage on a river of 10 hectometers whose depth in each hour is one of those that are given.
func canal(keel int, way []api.Pass, depths ...api.Bounds) api.Passage {
	return api.Passage{
		River: api.River{Reaches: []api.Reach{{Length: 10, Curve: []api.RateRow{{Flow: 0, Level: 0}, {Flow: 1000, Level: 1000}}}}},
		Sides: [][]api.Bounds{depths},
		Way:   way,
		Keel:  keel,
	}
}

// deep returns a passage on a canal that is as deep as a canal can be.
func deep() api.Passage { return canal(0, []api.Pass{{}}, to(1000, 1000)) }

// outcome is the error of a call, and whether all its other results are zero values.
type outcome struct {
	e    api.Errno
	zero bool
}

// outcomeOf returns the outcome of a call with these results.
func outcomeOf(e api.Errno, results ...any) outcome {
	return outcome{e, !slices.ContainsFunc(results, func(x any) bool { return !reflect.ValueOf(x).IsZero() })}
}

// call is the arguments of the functions of layer 2 with a density.
type call struct {
	h       api.Hull
	load    []int
	density api.Bounds
	p       api.Passage
}

// valid returns arguments with which no function returns an error.
func valid() call {
	return call{example(), []int{0, 1}, to(1000, 1000), passage()}
}

// The outcomes of each function with the arguments of a call.

func (c call) float() outcome {
	f, e := hull.Float(c.h, c.load, c.density)
	return outcomeOf(e, f)
}

func (c call) safe() outcome {
	surely, possibly, pass, hour, e := hull.Safe(c.h, c.load, c.density, c.p)
	return outcomeOf(e, surely, possibly, pass, hour)
}

func (c call) advise() outcome {
	a, e := hull.Advise(c.h, c.density, c.p)
	return outcomeOf(e, a)
}

func (c call) later() outcome {
	k, e := hull.Later(c.h, c.load, c.density, c.p)
	return outcomeOf(e, k)
}

// expect fails the test unless a call had an error, and zero values beside it.
func expect(t *testing.T, name string, got outcome, e api.Errno) {
	t.Helper()
	if got.e != e || e != api.OK && !got.zero {
		t.Errorf("%s: error %d, not %d; zero values: %t", name, got.e, e, got.zero)
	}
}

// dice makes hulls, loads and passages that look random, but are the same in each run.
type dice struct {
	*rand.Rand
}

func newDice(seed int64) dice { return dice{rand.New(rand.NewSource(seed))} }

// from returns a number from low to high.
func (d dice) from(low, high int) int { return low + d.Intn(high-low+1) }

// bounds returns bounds that are valid from low to high.
func (d dice) bounds(low, high int) api.Bounds {
	a, b := d.from(low, high), d.from(low, high)
	return to(min(a, b), max(a, b))
}

// choose returns bounds that hold only one truth, rather often one of their ends.
func (d dice) choose(b api.Bounds) api.Bounds {
	n := d.from(b.Low, b.High)
	switch d.Intn(4) {
	case 0:
		n = b.Low
	case 1:
		n = b.High
	}
	return to(n, n)
}

// density returns bounds of a density.
func (d dice) density() api.Bounds { return d.bounds(900, 1100) }

// section returns a section that takes up to some lots in each of n holds.
func (d dice) section(n, lots int) api.HullSection {
	x := api.HullSection{Length: d.from(1, 40), Light: d.from(0, 60), Trim: d.from(1, 40), Curve: []api.HullRow{{}}}
	for range d.from(1, 4) {
		last := x.Curve[len(x.Curve)-1]
		x.Curve = append(x.Curve, row(last.Draft+d.from(1, 60), last.Volume+d.from(1, 150)))
	}
	for range n {
		x.Holds = append(x.Holds, at(d.from(0, x.Length), d.from(0, lots)))
	}
	return x
}

// hull returns a valid hull of n sections with at most 4 holds in all, with up to some lots in each.
func (d dice) hull(n, lots int) api.Hull {
	h, left := api.Hull{Lot: d.from(1, 30)}, 4
	for range n {
		holds := d.from(0, min(left, 2))
		left -= holds
		h.Sections = append(h.Sections, d.section(holds, lots))
	}
	return h
}

// storage returns the holds of a hull.
func storage(h api.Hull) []api.HullHold {
	var all []api.HullHold
	for _, x := range h.Sections {
		all = append(all, x.Holds...)
	}
	return all
}

// load returns a load that has the right form for a hull.
func (d dice) load(h api.Hull) []int {
	load := []int{}
	for _, x := range storage(h) {
		load = append(load, d.from(0, x.Lots))
	}
	return load
}

// allLoads returns all loads of a hull, in ascending order.
func allLoads(h api.Hull) [][]int {
	all := [][]int{{}}
	for _, x := range storage(h) {
		var longer [][]int
		for _, load := range all {
			for n := range x.Lots + 1 {
				longer = append(longer, append(slices.Clone(load), n))
			}
		}
		all = longer
	}
	return all
}

// passage returns a passage on a river of two reaches that becomes up to some centimeters deep.
func (d dice) passage(depth int) api.Passage {
	p, hours := api.Passage{Keel: d.from(0, 20)}, d.from(1, 8)
	for range 2 {
		p.River.Reaches = append(p.River.Reaches, api.Reach{
			Length: 3, Delay: d.from(0, 2), Base: d.bounds(0, depth), Curve: []api.RateRow{{}, {Flow: 2 * depth, Level: depth}},
			Bottom: d.bounds(0, 9),
		})
		var side []api.Bounds
		for range hours {
			low := d.from(0, depth)
			side = append(side, to(low, low+d.from(0, depth/4)))
		}
		p.Sides = append(p.Sides, side)
	}
	p.River.Shoals = []api.Shoal{{Place: d.from(0, 5), Bed: d.bounds(0, 40), Sounded: d.from(-9, 9), Grow: d.bounds(-30, 30)}}
	for range d.from(1, 3) {
		p.Way = append(p.Way, api.Pass{Place: d.from(0, 5), Hours: d.bounds(0, hours-1)})
	}
	return p
}

// delayed returns a passage all of whose passes are k hours later.
func delayed(p api.Passage, k int) api.Passage {
	way := []api.Pass{}
	for _, x := range p.Way {
		way = append(way, pass(x.Place, x.Hours.Low+k, x.Hours.High+k))
	}
	p.Way = way
	return p
}
