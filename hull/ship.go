package hull

import (
	"cmp"
	"iter"
	"slices"
	"sort"

	"thalweg/api"
	"thalweg/numbers"
)

// ship is a valid hull, with the numbers that its drafts depend on.
type ship struct {
	api.Hull
	limit   int    // the greatest draft
	trim    int    // the sum of Trim
	mass    int    // without a load
	moment  int    // without a load
	storage []hold // from the fore end to the aft end
}

// hold is a hold of a ship, and its distance from the middle of the ship in half meters, below 0 before it.
type hold struct {
	api.HullHold
	arm int
}

// launch returns the ship of a hull, or the error of the hull.
func launch(h api.Hull) (ship, api.Errno) {
	if e := Check(h); e != api.OK {
		return ship{}, e
	}
	s := ship{Hull: h, limit: api.MaxDraft}
	// The fore end of each section, in half meters from the middle: half a ship is as many half meters long as the ship is meters.
	fore := -length(h.Sections...)
	for _, x := range h.Sections {
		s.limit = min(s.limit, x.Curve[len(x.Curve)-1].Draft)
		s.trim += x.Trim
		s.mass += x.Light
		s.moment += x.Light * (fore + x.Length)
		for _, y := range x.Holds {
			s.storage = append(s.storage, hold{y, fore + 2*y.At})
		}
		fore += 2 * x.Length
	}
	return s, api.OK
}

// volume returns how much water a ship displaces at a draft that is not beyond its limit.
func (s ship) volume(draft int) int {
	total := 0
	for _, x := range s.Sections {
		total += curveAt(x.Curve, draft)
	}
	return total
}

// curveAt returns the volume on a valid curve at a draft from 0 to that of its last row.
func curveAt(rows []api.HullRow, draft int) int {
	row := slices.IndexFunc(rows[1:], func(row api.HullRow) bool { return draft <= row.Draft })
	a, b := rows[row], rows[row+1] // row counts from the second row on: it is the number of the row before
	return a.Volume + (b.Volume-a.Volume)*(draft-a.Draft)/(b.Draft-a.Draft)
}

// checkLoad returns the error of a load.
func (s ship) checkLoad(load []int) api.Errno {
	if len(load) != len(s.storage) {
		return api.ErrForm
	}
	for i, lots := range load {
		if !numbers.Within(0, s.storage[i].Lots, lots) {
			return api.ErrRange
		}
	}
	return api.OK
}

// loaded returns the number of lots of a load, and the moment of the ship with it.
func (s ship) loaded(load []int) (lots, moment int) {
	moment = s.moment
	for i, n := range load {
		lots += n
		moment += n * s.Lot * s.storage[i].arm
	}
	return lots, moment
}

// mean returns the mean draft with a number of lots at a density; it is beyond the limit if the ship sinks.
func (s ship) mean(lots, density int) int {
	water := numbers.Up((s.mass+lots*s.Lot)*1000, density)
	return sort.Search(s.limit+1, func(draft int) bool { return s.volume(draft) >= water })
}

// float returns how deep a ship lies with a valid load, or that this is too deep for it.
func (s ship) float(load []int, density api.Bounds) (api.HullFloat, api.Errno) {
	lots, moment := s.loaded(load)
	mean := api.Bounds{Low: s.mean(lots, density.High), High: s.mean(lots, density.Low)}
	more := numbers.Up(withoutSign(moment), 4*s.trim)
	deep := api.Bounds{Low: mean.Low + more, High: mean.High + more}
	if deep.High > s.limit {
		return api.HullFloat{}, api.ErrFull
	}
	return api.HullFloat{Mean: mean, Deep: deep, Head: cmp.Compare(moment, 0)}, api.OK
}

// withoutSign returns a number without its sign.
func withoutSign(n int) int {
	return max(n, -n)
}

// room returns how many lots all holds from one on can hold.
func (s ship) room(from int) int {
	lots := 0
	for _, h := range s.storage[from:] {
		lots += h.Lots
	}
	return lots
}

// loads yields all loads with a number of lots for which there is room, the smallest list first; each one is written over the one before.
func (s ship) loads(lots int) iter.Seq[[]int] {
	return func(yield func([]int) bool) {
		s.fill(make([]int, len(s.storage)), 0, lots, yield)
	}
}

// fill yields a load with each way to put lots into the holds from one on; it returns whether more loads are wanted.
func (s ship) fill(load []int, from, lots int, yield func([]int) bool) bool {
	if from == len(load) {
		return yield(load)
	}
	// What the holds behind this one cannot hold must go into this one.
	for n := max(lots-s.room(from+1), 0); n <= min(lots, s.storage[from].Lots); n++ {
		load[from] = n
		if !s.fill(load, from+1, lots-n, yield) {
			return false
		}
	}
	return true
}

// steadiest returns the first load with the least moment, without its sign, of all loads with a number of lots for which there is room.
func (s ship) steadiest(lots int) []int {
	best, least := make([]int, len(s.storage)), -1
	for load := range s.loads(lots) {
		_, moment := s.loaded(load)
		if least < 0 || withoutSign(moment) < least {
			least = withoutSign(moment)
			copy(best, load)
		}
	}
	return best
}
