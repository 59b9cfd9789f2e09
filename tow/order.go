package tow

import (
	"iter"
	"slices"

	"thalweg/api"
)

// orders yields all orders of numbers below n, the smallest list first; each one is written over the one before.
func orders(n int) iter.Seq[[]int] {
	return func(yield func([]int) bool) {
		extend(make([]int, 0, n), n, yield)
	}
}

// extend yields all orders of numbers below n that begin as one does; it returns whether more orders are wanted.
func extend(order []int, n int, yield func([]int) bool) bool {
	if len(order) == n {
		return yield(order)
	}
	for next := range n {
		if !slices.Contains(order, next) && !extend(append(order, next), n, yield) {
			return false
		}
	}
	return true
}

// add returns the sum of minutes.
func add(minutes ...int) int {
	sum := 0
	for _, n := range minutes {
		sum += n
	}
	return sum
}

// Order returns the order of voyages with the least holds in all.
func Order(l []api.Voyage, narrows []api.Narrow, most int) (order, holds []int, total int, e api.Errno) {
	if len(l) > api.MaxOrdered {
		return nil, nil, 0, api.ErrLong
	}
	f, e := gatherFor(l, narrows, most)
	if e != api.OK {
		return nil, nil, 0, e
	}
	e = api.ErrNone // until there is an order
	for next := range orders(len(l)) {
		minutes, held := f.holdAll(next, most)
		if held == len(l) && (e != api.OK || add(minutes...) < total) {
			order, holds, total, e = slices.Clone(next), minutes, add(minutes...), api.OK
		}
	}
	return order, holds, total, e
}
