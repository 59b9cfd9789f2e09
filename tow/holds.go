package tow

import (
	"cmp"
	"iter"
	"slices"

	"thalweg/api"
	"thalweg/numbers"
)

// fleet is voyages, with when each of them is in each narrow.
type fleet struct {
	voyages []api.Voyage
	narrows []api.Narrow
	stays   [][]stay // by the numbers of the voyage and of the narrow
}

// gather returns a fleet, or the error of its voyages and narrows.
func gather(l []api.Voyage, narrows []api.Narrow) (fleet, api.Errno) {
	if len(l) > api.MaxVoyages || len(narrows) > api.MaxNarrows {
		return fleet{}, api.ErrLong
	}
	valid := func(v api.Voyage) bool { return Check(v) == api.OK }
	if !numbers.Every(l, valid) || !numbers.Every(narrows, validNarrow) {
		return fleet{}, api.ErrArg
	}
	f := fleet{l, narrows, make([][]stay, len(l))}
	for i := range len(l) {
		for _, n := range narrows {
			s, e := visit(l[i], n)
			if e != api.OK {
				return fleet{}, e
			}
			f.stays[i] = append(f.stays[i], s)
		}
	}
	return f, api.OK
}

// gatherFor returns a fleet whose voyages may be held back, or the errors of Holds that come before ErrNone.
func gatherFor(l []api.Voyage, narrows []api.Narrow, most int) (fleet, api.Errno) {
	f, e := gather(l, narrows)
	if e != api.OK {
		return fleet{}, e
	}
	if !numbers.Within(0, api.MaxWait, most) {
		return fleet{}, api.ErrRange
	}
	return f, api.OK
}

// shared yields the narrows that two voyages pass, but in which they must not meet.
func (f fleet) shared(a, b int) iter.Seq[int] {
	return func(yield func(int) bool) {
		width := f.voyages[a].Width + f.voyages[b].Width
		for i, n := range f.narrows {
			apart := n.Single || width > n.Width
			if apart && f.stays[a][i].passes && f.stays[b][i].passes && !yield(i) {
				return
			}
		}
	}
}

// Conflicts returns the meetings that may happen and must not.
func Conflicts(l []api.Voyage, narrows []api.Narrow) ([]api.Meeting, api.Errno) {
	f, e := gather(l, narrows)
	if e != api.OK {
		return nil, e
	}
	var list []api.Meeting
	for first := range len(l) {
		for second := first + 1; second < len(l); second++ {
			for n := range f.shared(first, second) {
				if mayMeet(f.stays[first][n], f.stays[second][n]) {
					list = append(list, api.Meeting{First: first, Second: second, Narrow: n})
				}
			}
		}
	}
	return list, api.OK
}

// hold returns the least number of minutes by which a voyage is held back that has no conflict with others, held back as they are.
func (f fleet) hold(v int, others, holds []int) int {
	var closed []api.Bounds // with as many minutes there is a conflict
	for _, other := range others {
		for n := range f.shared(v, other) {
			own, its := f.stays[v][n], f.stays[other][n]
			closed = append(closed, api.Bounds{
				Low:  its.in.Low + holds[other] - own.out.High,
				High: its.out.High + holds[other] - own.in.Low,
			})
		}
	}
	slices.SortFunc(closed, func(a, b api.Bounds) int { return cmp.Compare(a.Low, b.Low) })
	minutes := 0
	for _, x := range closed {
		if x.Low <= minutes {
			minutes = max(minutes, x.High+1)
		}
	}
	return minutes
}

// holdAll holds back voyages in an order; it returns by how many minutes, by the numbers of the voyages, and how many of the order were held back before one for which there is no number.
func (f fleet) holdAll(order []int, most int) (holds []int, held int) {
	holds = make([]int, len(order))
	for i, v := range order {
		holds[v] = f.hold(v, order[:i], holds)
		if holds[v] > most {
			return nil, i
		}
	}
	return holds, len(order)
}

// Holds returns by how many minutes each voyage is held back.
func Holds(l []api.Voyage, narrows []api.Narrow, most int) (holds []int, at int, e api.Errno) {
	f, e := gatherFor(l, narrows, most)
	if e != api.OK {
		return nil, 0, e
	}
	order := make([]int, len(l))
	for i := range order {
		order[i] = i
	}
	holds, held := f.holdAll(order, most)
	if held < len(l) {
		return nil, held, api.ErrNone
	}
	return holds, 0, api.OK
}
