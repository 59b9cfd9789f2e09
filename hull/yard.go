package hull

import (
	"slices"

	"thalweg/api"
	"thalweg/numbers"
)

// Cut returns a hull without its sections from one on until another one.
func Cut(h api.Hull, from, to int) (api.Hull, api.Errno) {
	if e := Check(h); e != api.OK {
		return api.Hull{}, e
	}
	if !numbers.Within(0, len(h.Sections), from, to) || from >= to {
		return api.Hull{}, api.ErrRange
	}
	if to-from == len(h.Sections) {
		return api.Hull{}, api.ErrForm
	}
	return build(h.Lot, slices.Concat(h.Sections[:from], h.Sections[to:])...), api.OK
}

// Weld returns a hull of two.
func Weld(a, b api.Hull) (api.Hull, api.Errno) {
	if e := Check(a); e != api.OK {
		return api.Hull{}, e
	}
	if e := Check(b); e != api.OK {
		return api.Hull{}, e
	}
	if a.Lot != b.Lot {
		return api.Hull{}, api.ErrState
	}
	h := build(a.Lot, slices.Concat(a.Sections, b.Sections)...)
	// Both parts are valid, so that nothing but the size of the whole can be wrong.
	if Check(h) != api.OK {
		return api.Hull{}, api.ErrFull
	}
	return h, api.OK
}

// build returns a hull of copies of sections, so that it shares no memory with the hulls that they come from.
func build(lot int, sections ...api.HullSection) api.Hull {
	h := api.Hull{Lot: lot}
	for _, x := range sections {
		x.Curve, x.Holds = slices.Clone(x.Curve), slices.Clone(x.Holds)
		h.Sections = append(h.Sections, x)
	}
	return h
}

// Life returns how many years all plates last, and the first plate that can fail first.
func Life(plates []api.HullPlate, least int) (years api.Bounds, plate int, e api.Errno) {
	if len(plates) == 0 {
		return api.Bounds{}, 0, api.ErrForm
	}
	if len(plates) > api.MaxPlates {
		return api.Bounds{}, 0, api.ErrLong
	}
	if !numbers.Every(plates, func(p api.HullPlate) bool {
		return numbers.Valid(p.Thick, 0, api.MaxThick) && numbers.Valid(p.Wear, 0, api.MaxWear)
	}) {
		return api.Bounds{}, 0, api.ErrArg
	}
	if !numbers.Within(0, api.MaxThick, least) {
		return api.Bounds{}, 0, api.ErrRange
	}
	years = api.Bounds{Low: api.MaxHullYears, High: api.MaxHullYears}
	for i, p := range plates {
		if low := lasts(p.Thick.Low-least, p.Wear.High); low < years.Low {
			years.Low, plate = low, i
		}
		years.High = min(years.High, lasts(p.Thick.High-least, p.Wear.Low))
	}
	return years, plate, api.OK
}

// lasts returns how many years a plate lasts of which so much may wear off.
func lasts(spare, wear int) int {
	if spare < 0 {
		return -1
	}
	if wear == 0 {
		return api.MaxHullYears
	}
	return min(spare/wear, api.MaxHullYears)
}
