package tow_test

import (
	"math/rand"
	"reflect"
	"slices"
	"testing"

	"thalweg/api"
	"thalweg/tow"
)

// to returns bounds.
func to(low, high int) api.Bounds { return api.Bounds{Low: low, High: high} }

// at returns bounds of a single number.
func at(n int) api.Bounds { return to(n, n) }

// hull returns a hull, or a boat.
func hull(length, width, mass int) api.TowHull {
	return api.TowHull{Length: length, Width: width, Mass: mass}
}

// boat returns the boat of the chapter's examples.
func boat() api.TowHull { return hull(30, 10, 200) }

// example returns the tow of the chapter's example 1.
func example() api.Tow {
	return api.Tow{Boat: boat(), Power: 2000, Rows: [][]api.TowHull{
		{hull(80, 11, 2000), hull(80, 11, 2500)},
		{hull(90, 12, 3000)},
	}}
}

// run returns a run.
func run(from, last int, speed, wait api.Bounds) api.Run {
	return api.Run{From: from, To: last, Speed: speed, Wait: wait}
}

// voyage returns a voyage of a tow that is 10 meters wide.
func voyage(start api.Bounds, length int, runs ...api.Run) api.Voyage {
	return api.Voyage{Start: start, Runs: runs, Length: length, Width: 10}
}

// downward and upward return the voyages of the chapter's examples 4 and 5.
func downward() api.Voyage {
	return voyage(to(0, 10), 200, run(0, 100, to(50, 100), at(0)))
}

func upward() api.Voyage {
	return voyage(at(20), 100, run(100, 0, at(100), at(0)))
}

// narrow returns a narrow in which two tows of 10 meters can meet.
func narrow(from, last int) api.Narrow { return api.Narrow{From: from, To: last, Width: 20} }

// single returns a narrow that holds a single tow.
func single(from, last int) api.Narrow {
	return api.Narrow{From: from, To: last, Width: 200, Single: true}
}

// long returns a valid voyage of n runs from a place on, to the next one each.
func long(n, from, step int) api.Voyage {
	v := voyage(at(0), 100)
	for i := range n {
		v.Runs = append(v.Runs, run(from+i*step, from+(i+1)*step, at(60), at(0)))
	}
	return v
}

// outcome is the error of a call, and whether all its other results are zero values.
type outcome struct {
	e    api.Errno
	zero bool
}

// outcomeOf returns the outcome of a call with these results.
func outcomeOf(e api.Errno, results ...any) outcome {
	return outcome{e, !slices.ContainsFunc(results, func(x any) bool { return !reflect.ValueOf(x).IsZero() })}
}

// expect fails the test unless a call had an error, and zero values beside it.
func expect(t *testing.T, name string, got outcome, e api.Errno) {
	t.Helper()
	if got.e != e || e != api.OK && !got.zero {
		t.Errorf("%s: error %d, not %d; zero values: %t", name, got.e, e, got.zero)
	}
}

// The outcomes of the functions, by their names.

func arrive(v api.Voyage, place int) outcome {
	b, e := tow.Arrive(v, place)
	return outcomeOf(e, b)
}

func through(v api.Voyage, n api.Narrow) outcome {
	in, out, passes, e := tow.Through(v, n)
	return outcomeOf(e, in, out, passes)
}

func meet(a, b api.Voyage, n api.Narrow) outcome {
	may, must, e := tow.Meet(a, b, n)
	return outcomeOf(e, may, must)
}

func conflicts(l []api.Voyage, narrows []api.Narrow) outcome {
	list, e := tow.Conflicts(l, narrows)
	return outcomeOf(e, list)
}

func holds(l []api.Voyage, narrows []api.Narrow, most int) outcome {
	minutes, number, e := tow.Holds(l, narrows, most)
	return outcomeOf(e, minutes, number)
}

func order(l []api.Voyage, narrows []api.Narrow, most int) outcome {
	list, minutes, total, e := tow.Order(l, narrows, most)
	return outcomeOf(e, list, minutes, total)
}

// dice makes tows and voyages that look random, but are the same in each run.
type dice struct {
	*rand.Rand
}

func newDice(seed int64) dice { return dice{rand.New(rand.NewSource(seed))} }

// from returns a number from low to high.
func (d dice) from(low, high int) int { return low + d.Intn(high-low+1) }

// bounds returns bounds that are valid from low to high.
func (d dice) bounds(low, high int) api.Bounds {
	a, b := d.from(low, high), d.from(low, high)
	return to(min(a, b), max(a, b))
}

// choose returns one truth, rather often an end of the bounds.
func (d dice) choose(b api.Bounds) int {
	switch d.Intn(4) {
	case 0:
		return b.Low
	case 1:
		return b.High
	}
	return d.from(b.Low, b.High)
}

// hulls returns n hulls, some of which have the same length.
func (d dice) hulls(n int) []api.TowHull {
	var list []api.TowHull
	for range n {
		list = append(list, hull(10*d.from(1, 5), d.from(1, 12), d.from(0, 100)))
	}
	return list
}

// known returns bounds that are valid from low to high and not wider than they may be.
func (d dice) known(low, high, wide int) api.Bounds {
	b := d.bounds(low, high)
	return to(b.Low, min(b.High, b.Low+wide))
}

// voyage returns a voyage from 0 to 60, or from 60 to 0, of which much or little is known.
func (d dice) voyage() api.Voyage {
	stops := []int{0, 60}
	for range d.from(0, 2) {
		stops = append(stops, d.from(1, 59))
	}
	slices.Sort(stops)
	stops = slices.Compact(stops)
	if d.Intn(2) == 0 {
		slices.Reverse(stops)
	}
	wide := d.from(0, 1) * d.from(0, 40)
	v := api.Voyage{Start: d.known(0, 40, wide), Length: d.from(1, 400), Width: d.from(5, 30)}
	for i := range len(stops) - 1 {
		v.Runs = append(v.Runs, run(stops[i], stops[i+1], d.known(60, 200, wide), d.known(0, 8, wide)))
	}
	return v
}

// voyages returns n voyages.
func (d dice) voyages(n int) []api.Voyage {
	var list []api.Voyage
	for range n {
		list = append(list, d.voyage())
	}
	return list
}

// narrow returns a narrow that each voyage of the dice passes.
func (d dice) narrow() api.Narrow {
	from := d.from(4, 50)
	return api.Narrow{From: from, To: from + d.from(1, 5), Width: d.from(10, 60), Single: d.Intn(4) == 0}
}

// narrows returns n narrows.
func (d dice) narrows(n int) []api.Narrow {
	var list []api.Narrow
	for range n {
		list = append(list, d.narrow())
	}
	return list
}

// heldBack returns a voyage that is held back by some minutes.
func heldBack(v api.Voyage, minutes int) api.Voyage {
	v.Start = to(v.Start.Low+minutes, v.Start.High+minutes)
	return v
}
