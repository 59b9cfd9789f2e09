package river_test

import (
	"math/rand"
	"reflect"
	"slices"

	"thalweg/api"
	"thalweg/river"
)

// to returns bounds.
func to(low, high int) api.Bounds { return api.Bounds{Low: low, High: high} }

// hours returns the same bounds for each of n hours.
func hours(n int, b api.Bounds) []api.Bounds { return slices.Repeat([]api.Bounds{b}, n) }

// example returns the river of the chapter's examples.
func example() api.River {
	return api.River{
		Reaches: []api.Reach{
			{
				Length: 100, Delay: 2, Base: to(1000, 1000),
				Curve:  []api.RateRow{{Flow: 0, Level: 100}, {Flow: 10000, Level: 300}},
				Bottom: to(50, 60), Flood: 400,
			},
			{
				Length: 50, Delay: 1, Base: to(2000, 2000),
				Curve: []api.RateRow{{Flow: 0, Level: 0}, {Flow: 20000, Level: 400}},
				Weir:  150, Bottom: to(20, 20), Flood: 160,
			},
		},
		Shoals: []api.Shoal{{Place: 120, Bed: to(40, 50), Sounded: 0, Grow: to(0, 12)}},
	}
}

// forecast returns the forecast of the chapter's examples.
func forecast() [][]api.Bounds {
	return [][]api.Bounds{hours(4, to(2000, 3000)), hours(4, to(500, 500))}
}

// outcome is the error of a call, and whether all its other results are zero values.
type outcome struct {
	e    api.Errno
	zero bool
}

// outcomeOf returns the outcome of a call with these results.
func outcomeOf(e api.Errno, results ...any) outcome {
	return outcome{e, !slices.ContainsFunc(results, func(x any) bool { return !reflect.ValueOf(x).IsZero() })}
}

// forecastCalls calls each function with a forecast, with other arguments that are valid for the examples.
func forecastCalls(r api.River, sides [][]api.Bounds) map[string]outcome {
	flows, flowsError := river.Flows(r, sides)
	levels, levelsError := river.Levels(r, sides)
	volume, volumeError := river.Volume(r, sides, 0, 0, 1)
	depth, depthError := river.Depth(r, sides, 0, 0)
	least, pass, hour, leastError := river.Shallowest(r, sides, []api.Pass{{}})
	possibly, surely, closedError := river.Closed(r, sides, nil, 0, 0)
	return map[string]outcome{
		"Flows":      outcomeOf(flowsError, flows),
		"Levels":     outcomeOf(levelsError, levels),
		"Volume":     outcomeOf(volumeError, volume),
		"Depth":      outcomeOf(depthError, depth),
		"Shallowest": outcomeOf(leastError, least, pass, hour),
		"Closed":     outcomeOf(closedError, possibly, surely),
	}
}

// wrongCalls calls each function with a forecast as forecastCalls does, but with other arguments that all have errors.
func wrongCalls(r api.River, sides [][]api.Bounds) map[string]outcome {
	volume, volumeError := river.Volume(r, sides, -1, -1, -1)
	depth, depthError := river.Depth(r, sides, -1, -1)
	least, pass, hour, leastError := river.Shallowest(r, sides, nil)
	possibly, surely, closedError := river.Closed(r, sides, make([]api.Closure, api.MaxClosures+1), -1, -1)
	return map[string]outcome{
		"Volume":     outcomeOf(volumeError, volume),
		"Depth":      outcomeOf(depthError, depth),
		"Shallowest": outcomeOf(leastError, least, pass, hour),
		"Closed":     outcomeOf(closedError, possibly, surely),
	}
}

// dice makes rivers, forecasts and truths that look random, but are the same in each run.
type dice struct {
	*rand.Rand
}

func newDice(seed int64) dice { return dice{rand.New(rand.NewSource(seed))} }

// from returns a number from low to high.
func (d dice) from(low, high int) int { return low + d.Intn(high-low+1) }

// bounds returns bounds that are valid from low to high.
func (d dice) bounds(low, high int) api.Bounds {
	a, b := d.from(low, high), d.from(low, high)
	return to(min(a, b), max(a, b))
}

// truth returns a number within bounds, rather often one of their ends.
func (d dice) truth(b api.Bounds) int {
	switch d.Intn(4) {
	case 0:
		return b.Low
	case 1:
		return b.High
	}
	return d.from(b.Low, b.High)
}

// narrower returns bounds within bounds.
func (d dice) narrower(b api.Bounds) api.Bounds { return d.bounds(b.Low, b.High) }

// reach returns a reach with few places, short delays, and levels up to 100.
func (d dice) reach() api.Reach {
	x := api.Reach{
		Length: d.from(1, 4), Delay: d.from(0, 3), Base: d.bounds(0, 60),
		Weir: d.from(0, 40), Bottom: d.bounds(0, 40), Flood: d.from(0, 100),
	}
	flow, level := d.from(0, 10), d.from(0, 30)
	for range d.from(2, 5) {
		x.Curve = append(x.Curve, api.RateRow{Flow: flow, Level: level})
		flow, level = flow+d.from(1, 30), level+d.from(0, 20)
	}
	return x
}

// river returns a small valid river.
func (d dice) river() api.River {
	r, places := api.River{}, 0
	for range d.from(1, 4) {
		x := d.reach()
		r.Reaches = append(r.Reaches, x)
		places += x.Length
	}
	for range d.from(0, 6) {
		r.Shoals = append(r.Shoals, api.Shoal{
			Place: d.from(0, places-1), Bed: d.bounds(0, 60), Sounded: d.from(-30, 10), Grow: d.bounds(-30, 30),
		})
	}
	return r
}

// places returns the number of places of a river.
func places(r api.River) int {
	n := 0
	for _, x := range r.Reaches {
		n += x.Length
	}
	return n
}

// sides returns a valid forecast for a river.
func (d dice) sides(r api.River) [][]api.Bounds {
	n, sides := d.from(1, 8), make([][]api.Bounds, len(r.Reaches))
	for i := range sides {
		for range n {
			sides[i] = append(sides[i], d.bounds(0, 40))
		}
	}
	return sides
}

// way returns a valid way of n passes.
func (d dice) way(r api.River, sides [][]api.Bounds, n int) []api.Pass {
	way := make([]api.Pass, n)
	for i := range way {
		way[i] = api.Pass{Place: d.from(0, places(r)-1), Hours: d.bounds(0, len(sides[0])-1)}
	}
	return way
}

// mapSides returns a forecast with other bounds.
func mapSides(sides [][]api.Bounds, change func(api.Bounds) api.Bounds) [][]api.Bounds {
	changed := make([][]api.Bounds, len(sides))
	for i, side := range sides {
		for _, b := range side {
			changed[i] = append(changed[i], change(b))
		}
	}
	return changed
}

// mapRiver returns a river with other bounds.
func mapRiver(r api.River, change func(api.Bounds) api.Bounds) api.River {
	reaches, shoals := slices.Clone(r.Reaches), slices.Clone(r.Shoals)
	for i := range reaches {
		reaches[i].Base, reaches[i].Bottom = change(reaches[i].Base), change(reaches[i].Bottom)
	}
	for i := range shoals {
		shoals[i].Bed, shoals[i].Grow = change(shoals[i].Bed), change(shoals[i].Grow)
	}
	return api.River{Reaches: reaches, Shoals: shoals}
}

// inside reports whether bounds are within others.
func inside(inner, outer api.Bounds) bool { return outer.Low <= inner.Low && inner.High <= outer.High }
