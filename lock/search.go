package lock

import (
	"cmp"
	"container/heap"
	"iter"
	"slices"

	"thalweg/api"
)

// compareSteps compares two steps of plans.
func compareSteps(a, b api.LockStep) int {
	return cmp.Or(cmp.Compare(heading(a.Up), heading(b.Up)), cmp.Compare(a.Tows, b.Tows))
}

// byCost compares two states by their costs, then by their movements, and then by their steps.
func byCost(a, b state) int {
	return cmp.Or(
		cmp.Compare(a.cost, b.cost),
		cmp.Compare(a.moves, b.moves),
		slices.CompareFunc(a.plan, b.plan, compareSteps),
	)
}

// byWater compares two states by the water that they take from the upper reach, and then by their costs.
func byWater(a, b state) int {
	return cmp.Or(cmp.Compare(b.Upper, a.Upper), byCost(a, b))
}

// agenda is a heap of states, from which the least one is taken first.
type agenda struct {
	states  []state
	compare func(a, b state) int
}

func (a *agenda) Len() int           { return len(a.states) }
func (a *agenda) Less(i, j int) bool { return a.compare(a.states[i], a.states[j]) < 0 }
func (a *agenda) Swap(i, j int)      { a.states[i], a.states[j] = a.states[j], a.states[i] }
func (a *agenda) Push(x any)         { a.states = append(a.states, x.(state)) }

func (a *agenda) Pop() any {
	last := len(a.states) - 1
	s := a.states[last]
	a.states = a.states[:last]
	return s
}

// following yields the state after each step that can come next.
func (q queues) following(s state) iter.Seq[state] {
	return func(yield func(state) bool) {
		all := q.lengths()
		for d := down; d < directions; d++ {
			for n := 1; n <= all[d]-s.taken[d]; n++ {
				step := api.LockStep{Up: d == up, Tows: n}
				tows := s.next(q, step)
				if !s.fit(tows...) {
					break // with more tows even less
				}
				if next, _ := s.carry(step, tows...); !yield(next) {
					return
				}
			}
		}
	}
}

// plans yields the last states of the complete plans all of whose states are allowed, the least one first: a step makes no state less, so nothing that comes later is less than the least state of the agenda.
func (q queues) plans(first state, allowed func(state) bool, compare func(a, b state) int) iter.Seq[state] {
	return func(yield func(state) bool) {
		begun := &agenda{compare: compare}
		if allowed(first) {
			heap.Push(begun, first)
		}
		for begun.Len() > 0 {
			s := heap.Pop(begun).(state)
			if s.taken == q.lengths() && !yield(s) {
				return
			}
			for next := range q.following(s) {
				if allowed(next) {
					heap.Push(begun, next)
				}
			}
		}
	}
}

// search returns the least complete plan all of whose states are allowed, and its cost.
func search(l api.Lock, tows []api.LockTow, allowed func(state) bool, compare func(a, b state) int) (plan []api.LockStep, cost int, e api.Errno) {
	q, e := gather(l, tows)
	if e != api.OK {
		return nil, 0, e
	}
	for s := range q.plans(begin(l, tows), allowed, compare) {
		return s.plan, s.cost, api.OK
	}
	return nil, 0, api.ErrNone
}

// Best returns the plan with the least cost.
func Best(l api.Lock, tows []api.LockTow) (plan []api.LockStep, cost int, e api.Errno) {
	return search(l, tows, func(state) bool { return true }, byCost)
}

// Thrift returns the plan that takes the least water from the upper reach, with a limited cost.
func Thrift(l api.Lock, tows []api.LockTow, most int) (plan []api.LockStep, cost int, e api.Errno) {
	return search(l, tows, func(s state) bool { return s.cost <= most }, byWater)
}
