package wash

import (
	"iter"

	"thalweg/api"
)

// moment is an event of a history, and what can be left in the tank before it.
type moment struct {
	api.TankEvent
	index       int
	least, most tank
}

// moments yields the events of a history that are of a kind.
func (r rules) moments(l []api.TankEvent, kind api.TankEventKind) iter.Seq[moment] {
	return func(yield func(moment) bool) {
		var least, most tank
		for i, e := range l {
			if e.Kind == kind && !yield(moment{e, i, least, most}) {
				return
			}
			least, most = r.cleanest(least, e), r.foulest(most, e)
		}
	}
}

// Audit returns the breaches in a history.
func Audit(r api.WashRules, l []api.TankEvent) ([]api.WashBreach, api.Errno) {
	valid, e := newRules(r, l)
	if e != api.OK {
		return nil, e
	}
	var breaches []api.WashBreach
	for m := range valid.moments(l, api.TankLoad) {
		for left := range r.Levels {
			if valid.bars(m.most, left, m.Number) {
				breaches = append(breaches, api.WashBreach{Event: m.index, Cargo: left, Sure: valid.bars(m.least, left, m.Number)})
			}
		}
	}
	return breaches, api.OK
}

// Slops returns for each cleaning the cargoes that can be in the washing water.
func Slops(r api.WashRules, l []api.TankEvent) ([][]int, api.Errno) {
	valid, e := newRules(r, l)
	if e != api.OK {
		return nil, e
	}
	var slops [][]int
	for m := range valid.moments(l, api.TankWash) {
		var cargoes []int
		for cargo, x := range m.most {
			if x.residue > 0 {
				cargoes = append(cargoes, cargo)
			}
		}
		slops = append(slops, cargoes)
	}
	return slops, api.OK
}

// Bill returns the sums of the minutes, the water and the cost of all cleanings.
func Bill(r api.WashRules, l []api.TankEvent) (minutes, water, cost int, e api.Errno) {
	valid, e := newRules(r, l)
	if e != api.OK {
		return 0, 0, 0, e
	}
	for m := range valid.moments(l, api.TankWash) {
		kind := r.Kinds[m.Number]
		minutes += kind.Minutes
		water += kind.Water
		cost += kind.Cost
	}
	return minutes, water, cost, api.OK
}
