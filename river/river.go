// Package river computes flows, levels and depths of a river within bounds: see shared/doc/01-river.md.
package river

import (
	"thalweg/api"
	"thalweg/numbers"
)

// Check returns OK if a river is valid.
func Check(r api.River) api.Errno {
	if !numbers.Within(1, api.MaxReaches, len(r.Reaches)) || !numbers.Every(r.Reaches, validReach) {
		return api.ErrArg
	}
	if len(r.Shoals) > api.MaxShoals || !numbers.Every(r.Shoals, func(s api.Shoal) bool { return validShoal(r, s) }) {
		return api.ErrArg
	}
	return api.OK
}

// validReach reports whether a valid river can have a reach.
func validReach(x api.Reach) bool {
	return numbers.Within(1, api.MaxLength, x.Length) &&
		numbers.Within(0, api.MaxDelay, x.Delay) &&
		numbers.Within(0, api.MaxLevel, x.Weir, x.Flood) &&
		numbers.Valid(x.Base, 0, api.MaxSide) &&
		numbers.Valid(x.Bottom, 0, api.MaxLevel) &&
		validCurve(x.Curve)
}

// validCurve reports whether rows are the rating curve of a gauge.
func validCurve(rows []api.RateRow) bool {
	if !numbers.Within(2, api.MaxCurve, len(rows)) {
		return false
	}
	rises := func(a, b api.RateRow) bool { return a.Flow < b.Flow && a.Level <= b.Level }
	for i := 1; i < len(rows); i++ {
		if !rises(rows[i-1], rows[i]) {
			return false
		}
	}
	return numbers.Every(rows, func(row api.RateRow) bool {
		return numbers.Within(0, api.MaxSide, row.Flow) && numbers.Within(0, api.MaxLevel, row.Level)
	})
}

// validShoal reports whether a river whose reaches are valid can have a shoal.
func validShoal(r api.River, s api.Shoal) bool {
	_, found := find(r, s.Place)
	return found &&
		numbers.Within(-api.MaxRiverHours, api.MaxRiverHours, s.Sounded) &&
		numbers.Valid(s.Bed, 0, api.MaxLevel) &&
		numbers.Valid(s.Grow, -api.MaxShift, api.MaxShift)
}

// checkForecast returns the error of a forecast for a valid river.
func checkForecast(r api.River, sides [][]api.Bounds) api.Errno {
	if len(sides) != len(r.Reaches) {
		return api.ErrForm
	}
	hours := len(sides[0])
	if hours == 0 || !numbers.Every(sides, func(side []api.Bounds) bool { return len(side) == hours }) {
		return api.ErrForm
	}
	if hours > api.MaxRiverHours {
		return api.ErrLong
	}
	possible := func(b api.Bounds) bool { return numbers.Valid(b, 0, api.MaxSide) }
	if !numbers.Every(sides, func(side []api.Bounds) bool { return numbers.Every(side, possible) }) {
		return api.ErrArg
	}
	return api.OK
}
