package hull

import (
	"slices"

	"thalweg/api"
	"thalweg/numbers"
	"thalweg/river"
)

// leastDepth is the least depth on a way, and the pass and the hour in which it can be as low as that.
type leastDepth struct {
	api.Bounds
	pass, hour int
}

// sound returns the least depth on the way of a passage, or the error of the passage.
func sound(p api.Passage) (leastDepth, api.Errno) {
	if !numbers.Within(0, api.MaxKeel, p.Keel) {
		return leastDepth{}, api.ErrRange
	}
	least, pass, hour, e := river.Shallowest(p.River, p.Sides, p.Way)
	return leastDepth{least, pass, hour}, e
}

// surely reports whether a hull surely can take the way.
func (d leastDepth) surely(f api.HullFloat, keel int) bool { return f.Deep.High+keel <= d.Low }

// possibly reports whether a hull possibly can take the way.
func (d leastDepth) possibly(f api.HullFloat, keel int) bool { return f.Deep.Low+keel <= d.High }

// Safe reports whether a loaded hull surely, and possibly, can take a way, and where and when this is shallowest.
func Safe(h api.Hull, load []int, density api.Bounds, p api.Passage) (surely, possibly bool, pass, hour int, e api.Errno) {
	f, e := Float(h, load, density)
	if e != api.OK {
		return false, false, 0, 0, e
	}
	least, e := sound(p)
	if e != api.OK {
		return false, false, 0, 0, e
	}
	return least.surely(f, p.Keel), least.possibly(f, p.Keel), least.pass, least.hour, api.OK
}

// Advise returns the greatest load that is safe.
func Advise(h api.Hull, density api.Bounds, p api.Passage) (api.HullAdvice, api.Errno) {
	s, e := launch(h)
	if e != api.OK {
		return api.HullAdvice{}, e
	}
	if !validDensity(density) {
		return api.HullAdvice{}, api.ErrArg
	}
	least, e := sound(p)
	if e != api.OK {
		return api.HullAdvice{}, e
	}
	cause := api.HullFull
	for lots := s.room(0); lots >= 0; lots-- {
		// With as many lots the mean draft is the same: if any load floats, or is safe, the steadiest one does, or is.
		load := s.steadiest(lots)
		f, e := s.float(load, density)
		if e == api.OK && least.surely(f, p.Keel) {
			return advice(load, lots, cause, least), api.OK
		}
		cause = api.HullSinks
		if e == api.OK {
			cause = api.HullRiver
		}
	}
	return api.HullAdvice{}, api.ErrState
}

// advice returns the advice to take a load; cause is why there are not more lots.
func advice(load []int, lots int, cause api.HullCause, least leastDepth) api.HullAdvice {
	a := api.HullAdvice{Load: load, Lots: lots, Cause: cause}
	if cause == api.HullRiver {
		a.Pass, a.Hour = least.pass, least.hour
	}
	return a
}

// Later returns by how many hours all passes must be later at least.
func Later(h api.Hull, load []int, density api.Bounds, p api.Passage) (int, api.Errno) {
	later, hours := p, 0
	for {
		later.Way = delay(p.Way, hours)
		surely, _, pass, hour, e := Safe(h, load, density, later)
		if e != api.OK {
			return 0, e
		}
		if surely {
			return hours, api.OK
		}
		// The way is too shallow for as long as this hour is one of the hours of this pass: until the first of them is later.
		hours = hour - p.Way[pass].Hours.Low + 1
		if hours > longestDelay(p) {
			return 0, api.ErrNone
		}
	}
}

// delay returns a way all of whose passes are some hours later.
func delay(way []api.Pass, hours int) []api.Pass {
	later := slices.Clone(way)
	for i := range later {
		later[i].Hours.Low += hours
		later[i].Hours.High += hours
	}
	return later
}

// longestDelay returns by how many hours the passes of a valid passage can be later, so that the forecast still has all their hours.
func longestDelay(p api.Passage) int {
	last := len(p.Sides[0]) - 1
	hours := last
	for _, x := range p.Way {
		hours = min(hours, last-x.Hours.High)
	}
	return hours
}
