package wash

import (
	"iter"
	"math"

	"thalweg/api"
	"thalweg/numbers"
)

// plans is the best plan that was found for what is left in the tanks.
type plans map[fleet]plan

// add adds a plan, unless a better one leaves the same in the tanks.
func (all plans) add(f fleet, p plan) {
	if old, found := all[f]; !found || better(p, old) {
		all[f] = p
	}
}

// best returns the best one of some plans.
func (all plans) best() plan {
	best := plan{washes: math.MaxInt}
	for _, p := range all {
		if better(p, best) {
			best = p
		}
	}
	return best
}

// forget returns a tank without what bars none of the cargoes that are to come. No plan depends on it: it only becomes less, until the same cargo is loaded again.
func (r rules) forget(t tank, jobs []int) tank {
	for left := range r.Levels {
		if numbers.Every(jobs, func(cargo int) bool { return !r.bars(t, left, cargo) }) {
			t[left] = remains{}
		}
	}
	return t
}

// following yields the steps that can carry the first one of some cargoes, and what they leave in the tanks for the others.
func (x task) following(f fleet, jobs []int) iter.Seq2[api.WashStep, fleet] {
	return func(yield func(api.WashStep, fleet) bool) {
		var rest fleet
		for i, t := range f {
			rest[i] = x.forget(t, jobs[1:])
		}
		for i := range x.tanks {
			for wash := none; wash < len(x.Kinds); wash++ {
				step := api.WashStep{Tank: i, Wash: wash}
				t, sure := x.carry(f, step, jobs[0])
				after := rest
				after[i] = x.forget(t, jobs[1:])
				if sure && !yield(step, after) {
					return
				}
			}
		}
	}
}

// extended returns the best plans with one step more, which carries the first one of some cargoes.
func (x task) extended(all plans, jobs []int) plans {
	more := plans{}
	for f, p := range all {
		for step, after := range x.following(f, jobs) {
			more.add(after, x.extend(p, step))
		}
	}
	return more
}

// bests returns the best plan for each number of cargoes, from 0 on, or the first cargo that cannot be carried.
func (x task) bests() (list []plan, at int, e api.Errno) {
	list = []plan{{}}
	all := plans{x.first: {}}
	for i := range x.jobs {
		all = x.extended(all, x.jobs[i:])
		if len(all) == 0 {
			return nil, i, api.ErrNone
		}
		list = append(list, all.best())
	}
	return list, 0, api.OK
}
