package tow_test

import (
	"math"
	"reflect"
	"slices"
	"testing"

	"thalweg/api"
	"thalweg/tow"
)

// R4: no argument is changed.
func TestArgumentsStay(t *testing.T) {
	x, hulls := example(), []api.TowHull{hull(80, 11, 1), hull(90, 11, 2), hull(80, 11, 3)}
	l, narrows := example5()
	l, narrows = append(l, stages()), append(narrows, narrow(10, 12))
	l[2].Runs[0].From = 0
	tow.Measure(x)
	tow.Stack(boat(), hulls, 23)
	for _, v := range l {
		tow.Check(v)
		tow.Arrive(v, 21)
		tow.Through(v, narrows[0])
		tow.Meet(v, l[0], narrows[0])
	}
	tow.Conflicts(l, narrows)
	tow.Holds(l, narrows, 100)
	tow.Order(l, narrows, 100)
	if !reflect.DeepEqual(x, example()) || !slices.Equal(hulls, []api.TowHull{hull(80, 11, 1), hull(90, 11, 2), hull(80, 11, 3)}) {
		t.Errorf("a tow was changed: %v, %v", x, hulls)
	}
	first, _ := example5()
	last := stages()
	last.Runs[0].From = 0
	if !reflect.DeepEqual(l, append(first, last)) || !slices.Equal(narrows, []api.Narrow{single(40, 50), narrow(10, 12)}) {
		t.Errorf("voyages or narrows were changed: %v, %v", l, narrows)
	}
}

// A result is new memory: to write into it changes neither another list of the result nor a later call.
func TestResultsAreNew(t *testing.T) {
	v := steady(at(0), 100, 0, 100)
	l, narrows := []api.Voyage{heldBack(v, 2), v, heldBack(v, 1)}, []api.Narrow{single(40, 50)}
	for range 2 {
		rows, _, _ := tow.Stack(boat(), alike(5, 50, 10), 20)
		list, _ := tow.Conflicts(l, narrows)
		minutes, _, _ := tow.Holds(l, narrows, 100)
		best, held, _, _ := tow.Order(l, narrows, 100)
		if !slices.Equal(rows, []int{1, 2, 2}) || len(list) != 3 || list[0] != met(0, 1, 0) || !slices.Equal(minutes, []int{0, 14, 25}) {
			t.Errorf("%v, %v, %v", rows, list, minutes)
		}
		rows[0], list[0], minutes[0] = -1, met(-1, -1, -1), -1
		for i := range best {
			best[i] = -1
		}
		_ = append(best, -2)
		if !slices.Equal(held, []int{10, 0, 23}) {
			t.Errorf("the lists of Order share memory: %v", held)
		}
		held[0] = -1
	}
}

// R3: nil and empty lists are the same.
func TestNilIsEmpty(t *testing.T) {
	x := example()
	x.Rows = [][]api.TowHull{{}}
	size, e := tow.Measure(x)
	expect(t, "an empty row", outcomeOf(e, size), api.ErrArg)
	rows, length, e := tow.Stack(boat(), []api.TowHull{}, 10)
	if len(rows) != 0 || length != 30 || e != api.OK {
		t.Error(rows, length, e)
	}
	for _, l := range [][]api.Voyage{nil, {}} {
		for _, narrows := range [][]api.Narrow{nil, {}} {
			list, e := tow.Conflicts(l, narrows)
			minutes, number, f := tow.Holds(l, narrows, 0)
			best, held, total, g := tow.Order(l, narrows, 0)
			if len(list)+len(minutes)+number+len(best)+len(held)+total != 0 || e != api.OK || f != api.OK || g != api.OK {
				t.Error(list, minutes, number, best, held, total, e, f, g)
			}
		}
	}
}

// P1: no function panics, or returns anything but zero values with an error, for the least and the greatest integers.
func TestExtremeNumbers(t *testing.T) {
	l, narrows := example5()
	for _, n := range []int{math.MinInt, math.MinInt + 1, -1, math.MaxInt - 1, math.MaxInt} {
		wide, strange := to(math.MinInt, n), hull(n, n, n)
		size, e := tow.Measure(api.Tow{Boat: strange, Power: n, Rows: [][]api.TowHull{{strange}}})
		expect(t, "Measure", outcomeOf(e, size), api.ErrArg)
		rows, length, e := tow.Stack(boat(), []api.TowHull{strange}, n)
		expect(t, "Stack of hulls", outcomeOf(e, rows, length), api.ErrArg)
		rows, length, e = tow.Stack(boat(), nil, n)
		expect(t, "Stack", outcomeOf(e, rows, length), api.ErrRange)
		for _, grip := range []api.Bounds{wide, at(n), at(1)} {
			meters, e := tow.Stop(n, n, grip, n)
			expect(t, "Stop", outcomeOf(e, meters), api.ErrRange)
			speed, e := tow.Safe(n, n, grip, n)
			expect(t, "Safe", outcomeOf(e, speed), api.ErrRange)
		}
		v := api.Voyage{Start: wide, Runs: []api.Run{run(n, n, wide, wide), run(n, 0, at(n), at(n))}, Length: n, Width: n}
		far := api.Narrow{From: math.MinInt, To: n, Width: n}
		expect(t, "Arrive", arrive(v, n), api.ErrArg)
		expect(t, "Arrive at a place", arrive(downward(), n), api.ErrNone)
		expect(t, "Through", through(v, far), api.ErrArg)
		expect(t, "Through a narrow", through(downward(), far), api.ErrArg)
		expect(t, "Meet", meet(downward(), v, far), api.ErrArg)
		expect(t, "Meet in a narrow", meet(downward(), upward(), far), api.ErrArg)
		expect(t, "Conflicts", conflicts([]api.Voyage{v}, narrows), api.ErrArg)
		expect(t, "Conflicts in a narrow", conflicts(l, []api.Narrow{far}), api.ErrArg)
		expect(t, "Holds", holds(l, narrows, n), api.ErrRange)
		expect(t, "Order", order(l, narrows, n), api.ErrRange)
	}
}

// P1: the greatest lists that are allowed need no long time.
func TestGreatestLists(t *testing.T) {
	narrows := make([]api.Narrow, 20)
	for i := range narrows {
		narrows[i] = single(1000+40*i, 1001+40*i)
	}
	v := api.Voyage{Start: to(0, 400), Length: 3000, Width: 200}
	for i := range 20 {
		v.Runs = append(v.Runs, run(150*i, 150*(i+1), to(300, 400), at(0)))
	}
	l := slices.Repeat([]api.Voyage{v}, 12)
	list, e := tow.Conflicts(l, narrows)
	if len(list) != 12*11/2*20 || e != api.OK {
		t.Errorf("%d conflicts, error %d", len(list), e)
	}
	minutes, number, e := tow.Holds(l, narrows, 5000)
	if minutes != nil || number == 0 || e != api.ErrNone {
		t.Errorf("%v, %d, error %d", minutes, number, e)
	}
	best, held, total, e := tow.Order(l[:6], narrows, 5000)
	if !slices.Equal(best, []int{0, 1, 2, 3, 4, 5}) || held[0] != 0 || total != 15*held[1] || e != api.OK {
		t.Errorf("%v, %v, %d, error %d", best, held, total, e)
	}
}
