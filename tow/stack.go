package tow

import (
	"thalweg/api"
	"thalweg/numbers"
)

// yard is hulls that are put into rows of some width, with the shortest rows that were found: by the number of their first hull, and by how many rows there may be.
type yard struct {
	hulls []api.TowHull
	width int
	found map[[2]int]pile
}

// pile is hulls in rows: how long these are in all, and how many hulls are in the first of them.
type pile struct {
	allowed       bool
	length, first int
}

// shortest returns the shortest rows, not more than a number, of all hulls from one on.
func (y yard) shortest(from, most int) (best pile) {
	key := [...]int{from, most}
	if known, ok := y.found[key]; ok {
		return known
	}
	defer func() { y.found[key] = best }()
	if from == len(y.hulls) {
		return pile{allowed: true}
	}
	if most == 0 {
		return pile{}
	}
	// Of rows that are equally short the first ones are those with the least hulls in the first row: the smallest list.
	for n := 1; n <= min(api.MaxAbreast, len(y.hulls)-from); n++ {
		row, rest := abreast(y.hulls[from:from+n]...), y.shortest(from+n, most-1)
		length := row.Length + rest.length
		if row.Width <= y.width && rest.allowed && (!best.allowed || length < best.length) {
			best = pile{true, length, n}
		}
	}
	return best
}

// Stack returns how many hulls to put into each row, and how long the tow is then.
func Stack(boat api.TowHull, hulls []api.TowHull, width int) (rows []int, length int, e api.Errno) {
	if !validHull(boat) || !numbers.Every(hulls, validHull) {
		return nil, 0, api.ErrArg
	}
	if len(hulls) > api.MaxTowHulls {
		return nil, 0, api.ErrLong
	}
	if !numbers.Within(1, api.MaxTowWidth, width) {
		return nil, 0, api.ErrRange
	}
	y := yard{hulls, width, map[[2]int]pile{}}
	best := y.shortest(0, api.MaxTowRows)
	if boat.Width > width || !best.allowed {
		return nil, 0, api.ErrNone
	}
	for from := 0; from < len(hulls); from += rows[len(rows)-1] {
		rows = append(rows, y.shortest(from, api.MaxTowRows-len(rows)).first)
	}
	return rows, boat.Length + best.length, api.OK
}
