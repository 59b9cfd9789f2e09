package river

import (
	"iter"
	"math"

	"thalweg/api"
	"thalweg/numbers"
)

// site is a place of a river, with the reach in which it lies.
type site struct {
	api.Reach
	number int // of the reach
	place  int
	shoals []api.Shoal // of the whole river
}

// find returns the site of a place, and whether the place is one of the river.
func find(r api.River, place int) (site, bool) {
	end := 0
	for number, x := range r.Reaches {
		end += x.Length
		if 0 <= place && place < end {
			return site{x, number, place, r.Shoals}, true
		}
	}
	return site{}, false
}

// beds yields how high the bottom and each shoal at a site are in an hour.
func (p site) beds(hour int) iter.Seq[api.Bounds] {
	return func(yield func(api.Bounds) bool) {
		if !yield(p.Bottom) {
			return
		}
		for _, s := range p.shoals {
			if s.Place == p.place && !yield(shoalAt(s, hour)) {
				return
			}
		}
	}
}

// shoalAt returns how high a shoal is in an hour; before it was sounded it is as high as it was then.
func shoalAt(s api.Shoal, hour int) api.Bounds {
	age := max(hour-s.Sounded, 0)
	return api.Bounds{
		Low:  s.Bed.Low + numbers.Down(s.Grow.Low*age, 24),
		High: s.Bed.High + numbers.Up(s.Grow.High*age, 24),
	}
}

// bed returns how high the bed at a site is in an hour.
func (p site) bed(hour int) api.Bounds {
	highest := api.Bounds{} // the bottom is one of the beds, and is not below 0
	for b := range p.beds(hour) {
		highest.Low = max(highest.Low, b.Low)
		highest.High = max(highest.High, b.High)
	}
	return highest
}

// depth returns how deep the water is at a site in an hour.
func (s stream) depth(p site, hour int) api.Bounds {
	level, bed := s.level(p.number, hour), p.bed(hour)
	return api.Bounds{Low: max(level.Low-bed.High, 0), High: max(level.High-bed.Low, 0)}
}

// findAt returns the site of a place, or the error of the place or of the hour.
func (s stream) findAt(place, hour int) (site, api.Errno) {
	p, found := find(s.River, place)
	if !found {
		return site{}, api.ErrNone
	}
	if !numbers.Within(0, s.hours()-1, hour) {
		return site{}, api.ErrRange
	}
	return p, api.OK
}

// Bed returns how high the bed is at a place in an hour.
func Bed(r api.River, place, hour int) (api.Bounds, api.Errno) {
	if e := Check(r); e != api.OK {
		return api.Bounds{}, e
	}
	p, found := find(r, place)
	if !found {
		return api.Bounds{}, api.ErrNone
	}
	if !numbers.Within(-api.MaxRiverHours, api.MaxRiverHours, hour) {
		return api.Bounds{}, api.ErrRange
	}
	return p.bed(hour), api.OK
}

// Depth returns how deep the water is at a place in an hour.
func Depth(r api.River, sides [][]api.Bounds, place, hour int) (api.Bounds, api.Errno) {
	s, e := run(r, sides)
	if e != api.OK {
		return api.Bounds{}, e
	}
	p, e := s.findAt(place, hour)
	if e != api.OK {
		return api.Bounds{}, e
	}
	return s.depth(p, hour), api.OK
}

// Shallowest returns the least depth on a way, and where and when it can be as low as that.
func Shallowest(r api.River, sides [][]api.Bounds, way []api.Pass) (least api.Bounds, pass, hour int, e api.Errno) {
	s, e := run(r, sides)
	if e != api.OK {
		return api.Bounds{}, 0, 0, e
	}
	if e := s.checkWay(way); e != api.OK {
		return api.Bounds{}, 0, 0, e
	}
	least = api.Bounds{Low: math.MaxInt, High: math.MaxInt}
	for i, p := range way {
		depth, at := s.passDepth(p)
		if depth.Low < least.Low {
			least.Low, pass, hour = depth.Low, i, at
		}
		least.High = min(least.High, depth.High)
	}
	return least, pass, hour, api.OK
}

// checkWay returns the error of a way.
func (s stream) checkWay(way []api.Pass) api.Errno {
	if len(way) == 0 {
		return api.ErrForm
	}
	if len(way) > api.MaxPasses {
		return api.ErrLong
	}
	for _, p := range way {
		if _, found := find(s.River, p.Place); !found {
			return api.ErrNone
		}
		if !numbers.Valid(p.Hours, 0, s.hours()-1) {
			return api.ErrRange
		}
	}
	return api.OK
}

// passDepth returns the bounds of the depth in all hours of a pass, and the first hour with their Low.
func (s stream) passDepth(p api.Pass) (all api.Bounds, hour int) {
	place, _ := find(s.River, p.Place)
	all, hour = s.depth(place, p.Hours.Low), p.Hours.Low
	for later := range p.Hours.High - p.Hours.Low + 1 {
		depth := s.depth(place, p.Hours.Low+later)
		if depth.Low < all.Low {
			all.Low, hour = depth.Low, p.Hours.Low+later
		}
		all.High = max(all.High, depth.High)
	}
	return all, hour
}
