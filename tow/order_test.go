package tow_test

import (
	"slices"
	"testing"

	"thalweg/api"
	"thalweg/tow"
)

// P3.10: the order with the least sum, of several ones the smallest list, and the holds by the numbers of the voyages.
func TestOrder(t *testing.T) {
	one := []api.Narrow{single(40, 50)}
	v := steady(at(0), 100, 0, 100)
	slow := voyage(at(0), 100, run(0, 100, at(30), at(0))) // in the narrow from 80 to 102
	for name, c := range map[string]struct {
		l            []api.Voyage
		narrows      []api.Narrow
		most         int
		order, holds []int
		total        int
	}{
		"example 5":           {[]api.Voyage{downward(), upward()}, one, 100, []int{0, 1}, []int{0, 24}, 24},
		"other way round":     {[]api.Voyage{upward(), downward()}, one, 100, []int{1, 0}, []int{24, 0}, 24},
		"no voyage":           {nil, one, 0, nil, nil, 0},
		"one voyage":          {[]api.Voyage{v}, one, 0, []int{0}, []int{0}, 0},
		"equal ones":          {[]api.Voyage{v, v, v}, one, 24, []int{0, 1, 2}, []int{0, 12, 24}, 36},
		"no conflict":         {[]api.Voyage{slow, v}, one, 0, []int{0, 1}, []int{0, 0}, 0},
		"by their starts":     {[]api.Voyage{heldBack(v, 2), heldBack(v, 1), v}, one, 100, []int{2, 0, 1}, []int{10, 23, 0}, 33},
		"slow one last":       {[]api.Voyage{slow, heldBack(v, 35)}, one, 100, []int{1, 0}, []int{7, 0}, 7},
		"slow one first":      {[]api.Voyage{slow, heldBack(v, 60)}, one, 100, []int{0, 1}, []int{0, 3}, 3},
		"smallest of several": {[]api.Voyage{v, heldBack(v, 200), heldBack(v, 100)}, one, 0, []int{0, 1, 2}, []int{0, 0, 0}, 0},
		"within most":         {[]api.Voyage{slow, heldBack(v, 35)}, one, 7, []int{1, 0}, []int{7, 0}, 7},
		"least sum":           {[]api.Voyage{slow, heldBack(v, 45), heldBack(v, 57)}, one, 29, []int{1, 2, 0}, []int{29, 0, 0}, 29},
		"least is too much":   {[]api.Voyage{slow, heldBack(v, 45), heldBack(v, 57)}, one, 28, []int{0, 1, 2}, []int{0, 18, 18}, 36},
	} {
		got, minutes, total, e := tow.Order(c.l, c.narrows, c.most)
		if !slices.Equal(got, c.order) || !slices.Equal(minutes, c.holds) || total != c.total || e != api.OK {
			t.Errorf("%s: %v, %v, %d, error %d", name, got, minutes, total, e)
		}
	}
}

// P3.10: the errors that Order does not share with Holds.
func TestOrderErrors(t *testing.T) {
	one := []api.Narrow{single(40, 50)}
	v := steady(at(0), 100, 0, 100)
	expect(t, "no order", order([]api.Voyage{v, v}, one, 11), api.ErrNone)
	expect(t, "no order of three", order([]api.Voyage{v, v, v}, one, 23), api.ErrNone)
	expect(t, "just an order of three", order([]api.Voyage{v, v, v}, one, 24), api.OK)
	expect(t, "7 voyages", order(slices.Repeat([]api.Voyage{v}, 7), one, 5000), api.ErrLong)
	expect(t, "7 voyages, no narrows", order(slices.Repeat([]api.Voyage{v}, 7), nil, 5000), api.ErrLong)
	expect(t, "7 invalid ones", order(make([]api.Voyage, 7), make([]api.Narrow, 1), -1), api.ErrLong)
	expect(t, "12 voyages", order(slices.Repeat([]api.Voyage{v}, 12), one, 5000), api.ErrLong)
	expect(t, "6 voyages", order(slices.Repeat([]api.Voyage{v}, 6), one, 60), api.OK)
	expect(t, "6 voyages, no order", order(slices.Repeat([]api.Voyage{v}, 6), one, 59), api.ErrNone)
	l := []api.Voyage{downward(), upward()}
	slices.Reverse(l)
	if _, number, e := tow.Holds(l, one, 24); number != 1 || e != api.ErrNone {
		t.Errorf("Holds of the other order: %d, error %d", number, e)
	}
	expect(t, "but in one order", order(l, one, 24), api.OK)
}

// allOrders returns all orders of the numbers below n, in ascending order.
func allOrders(n int) [][]int {
	if n == 0 {
		return [][]int{{}}
	}
	var all [][]int
	for _, shorter := range allOrders(n - 1) {
		for i := range n {
			all = append(all, slices.Insert(slices.Clone(shorter), i, n-1))
		}
	}
	slices.SortFunc(all, slices.Compare)
	return all
}

// inOrder returns voyages in an order.
func inOrder(l []api.Voyage, order []int) []api.Voyage {
	var list []api.Voyage
	for _, v := range order {
		list = append(list, l[v])
	}
	return list
}

// P3.10 and P3.12: no order needs fewer minutes in all; the smallest list of those that need as few is returned.
func TestOrderIsBest(t *testing.T) {
	d, failed, changed := newDice(39), 0, 0
	for range 150 {
		l, narrows, most := d.voyages(d.from(0, 5)), d.narrows(d.from(0, 4)), d.from(0, 80)
		var best, bestHolds []int
		least := -1
		for _, next := range allOrders(len(l)) {
			minutes, _, e := tow.Holds(inOrder(l, next), narrows, most)
			sum := 0
			for _, n := range minutes {
				sum += n
			}
			if e == api.OK && (least < 0 || sum < least) {
				best, least, bestHolds = next, sum, make([]int, len(l))
				for i, v := range next {
					bestHolds[v] = minutes[i]
				}
			}
		}
		got, minutes, total, e := tow.Order(l, narrows, most)
		if least < 0 {
			failed++
			expect(t, "no order", outcomeOf(e, got, minutes, total), api.ErrNone)
			continue
		}
		if !slices.IsSorted(best) {
			changed++
		}
		if !slices.Equal(got, best) || !slices.Equal(minutes, bestHolds) || total != least || e != api.OK {
			t.Fatalf("%v, %v, %d, error %d; not %v, %v, %d", got, minutes, total, e, best, bestHolds, least)
		}
	}
	if failed < 5 || failed > 75 || changed < 20 {
		t.Errorf("%d of 150 have no order, %d another one", failed, changed)
	}
}
