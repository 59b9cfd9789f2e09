package river

import (
	"slices"

	"thalweg/api"
	"thalweg/numbers"
)

// stream is a river with the flow of each of its reaches in each hour of a forecast.
type stream struct {
	api.River
	flows [][]api.Bounds
}

// run lets the water of a forecast run down a river; it returns the errors that a river and a forecast can have.
func run(r api.River, sides [][]api.Bounds) (stream, api.Errno) {
	if e := Check(r); e != api.OK {
		return stream{}, e
	}
	if e := checkForecast(r, sides); e != api.OK {
		return stream{}, e
	}
	s := stream{River: r}
	for reach, side := range sides {
		list := make([]api.Bounds, len(side))
		for hour := range len(side) {
			list[hour] = numbers.Sum(side[hour], s.inflow(reach, hour))
		}
		s.flows = append(s.flows, list)
	}
	return s, api.OK
}

// inflow returns what comes into a reach from the one above, whose flows are known already.
func (s stream) inflow(reach, hour int) api.Bounds {
	if reach == 0 {
		return api.Bounds{}
	}
	above := s.Reaches[reach-1]
	if hour < above.Delay {
		return above.Base
	}
	return s.flows[reach-1][hour-above.Delay]
}

// hours returns the number of hours of the forecast.
func (s stream) hours() int {
	return len(s.flows[0])
}

// level returns the level of a reach in an hour.
func (s stream) level(reach, hour int) api.Bounds {
	return levelAt(s.Reaches[reach], s.flows[reach][hour])
}

// levelAt returns the level of a valid reach at a flow.
func levelAt(x api.Reach, flow api.Bounds) api.Bounds {
	return api.Bounds{
		Low:  max(curveAt(x.Curve, flow.Low, numbers.Down), x.Weir),
		High: max(curveAt(x.Curve, flow.High, numbers.Up), x.Weir),
	}
}

// curveAt returns the level on a curve at a flow, rounded as divide does.
func curveAt(rows []api.RateRow, flow int, divide func(a, b int) int) int {
	next := slices.IndexFunc(rows, func(row api.RateRow) bool { return flow <= row.Flow })
	if next < 0 {
		return rows[len(rows)-1].Level
	}
	if next == 0 {
		return rows[0].Level
	}
	a, b := rows[next-1], rows[next]
	return a.Level + divide((b.Level-a.Level)*(flow-a.Flow), b.Flow-a.Flow)
}

// Flows returns the flow of each reach, hour by hour.
func Flows(r api.River, sides [][]api.Bounds) ([][]api.Bounds, api.Errno) {
	s, e := run(r, sides)
	return s.flows, e
}

// Level returns the level of a reach at a flow.
func Level(x api.Reach, flow api.Bounds) (api.Bounds, api.Errno) {
	if !validReach(x) {
		return api.Bounds{}, api.ErrArg
	}
	if !numbers.Valid(flow, 0, api.MaxReaches*api.MaxSide+api.MaxSide) {
		return api.Bounds{}, api.ErrRange
	}
	return levelAt(x, flow), api.OK
}

// Levels returns the level of each reach, hour by hour.
func Levels(r api.River, sides [][]api.Bounds) ([][]api.Bounds, api.Errno) {
	s, e := run(r, sides)
	if e != api.OK {
		return nil, e
	}
	levels := make([][]api.Bounds, len(s.Reaches))
	for reach := range levels {
		for hour := range s.hours() {
			levels[reach] = append(levels[reach], s.level(reach, hour))
		}
	}
	return levels, api.OK
}

// Volume returns how much water flows through a reach in some hours.
func Volume(r api.River, sides [][]api.Bounds, reach, from, to int) (api.Bounds, api.Errno) {
	s, e := run(r, sides)
	if e != api.OK {
		return api.Bounds{}, e
	}
	if !numbers.Within(0, len(s.Reaches)-1, reach) {
		return api.Bounds{}, api.ErrNone
	}
	if !numbers.Within(0, s.hours(), from, to) || from > to {
		return api.Bounds{}, api.ErrRange
	}
	return numbers.Sum(s.flows[reach][from:to]...), api.OK
}
