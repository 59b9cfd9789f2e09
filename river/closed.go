package river

import (
	"slices"

	"thalweg/api"
	"thalweg/numbers"
)

// Closed reports whether a place is possibly, and surely, closed in an hour.
func Closed(r api.River, sides [][]api.Bounds, l []api.Closure, place, hour int) (possibly, surely bool, e api.Errno) {
	s, e := run(r, sides)
	if e != api.OK {
		return false, false, e
	}
	if e := checkClosures(r, l); e != api.OK {
		return false, false, e
	}
	p, e := s.findAt(place, hour)
	if e != api.OK {
		return false, false, e
	}
	level := s.level(p.number, hour)
	possibly = level.High > p.Flood || slices.ContainsFunc(l, func(c api.Closure) bool {
		return numbers.Within(c.From, c.To, place) && c.Begin.Low <= hour && hour < c.End.High
	})
	surely = level.Low > p.Flood || slices.ContainsFunc(l, func(c api.Closure) bool {
		return numbers.Within(c.From, c.To, place) && c.Begin.High <= hour && hour < c.End.Low
	})
	return possibly, surely, api.OK
}

// checkClosures returns the error of closures of a valid river.
func checkClosures(r api.River, l []api.Closure) api.Errno {
	if len(l) > api.MaxClosures {
		return api.ErrLong
	}
	possible := func(b api.Bounds) bool { return numbers.Valid(b, -api.MaxRiverHours, 2*api.MaxRiverHours) }
	if !numbers.Every(l, func(c api.Closure) bool {
		_, begins := find(r, c.From)
		_, ends := find(r, c.To)
		return begins && ends && c.From <= c.To && possible(c.Begin) && possible(c.End)
	}) {
		return api.ErrArg
	}
	return api.OK
}
