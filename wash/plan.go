package wash

import (
	"cmp"

	"thalweg/api"
)

// choices is how many kinds of cleaning there can be, and none.
const choices = api.MaxWashKinds + 1

// plan is how some cargoes are carried.
type plan struct {
	washes, cost int
	// The steps are the digits of a number. It needs little memory, and of two lists of the same length the smaller one is the smaller number.
	digits int
}

// extend returns a plan with one step more.
func (r rules) extend(p plan, step api.WashStep) plan {
	if step.Wash != none {
		p.washes++
		p.cost += r.Kinds[step.Wash].Cost
	}
	p.digits = p.digits*api.MaxFleetTanks*choices + step.Tank*choices + step.Wash - none
	return p
}

// steps returns the steps of a plan for a number of cargoes.
func (p plan) steps(number int) []api.WashStep {
	list := make([]api.WashStep, number)
	for i := range list {
		list[number-1-i] = api.WashStep{Tank: p.digits / choices % api.MaxFleetTanks, Wash: p.digits%choices + none}
		p.digits /= api.MaxFleetTanks * choices
	}
	return list
}

// better reports whether a plan is better than another one for the same cargoes.
func better(p, q plan) bool {
	return cmp.Or(cmp.Compare(p.washes, q.washes), cmp.Compare(p.cost, q.cost), cmp.Compare(p.digits, q.digits)) < 0
}

// plan returns the best plan for all cargoes, or the first cargo that cannot be carried.
func (x task) plan() (steps []api.WashStep, cost, at int, e api.Errno) {
	list, at, e := x.bests()
	if e != api.OK {
		return nil, 0, at, e
	}
	best := list[len(x.jobs)]
	return best.steps(len(x.jobs)), best.cost, 0, api.OK
}

// Plan returns the fewest cleanings with which cargoes can be carried in one tank.
func Plan(r api.WashRules, l []api.TankEvent, jobs []int) (washes []int, cost, at int, e api.Errno) {
	x, e := tankTask(r, l, jobs)
	if e != api.OK {
		return nil, 0, 0, e
	}
	steps, cost, at, e := x.plan()
	for _, step := range steps {
		washes = append(washes, step.Wash)
	}
	return washes, cost, at, e
}

// Fewest returns the number of cleanings that each beginning of the cargoes needs.
func Fewest(r api.WashRules, l []api.TankEvent, jobs []int) (washes []int, at int, e api.Errno) {
	x, e := tankTask(r, l, jobs)
	if e != api.OK {
		return nil, 0, e
	}
	list, at, e := x.bests()
	if e != api.OK {
		return nil, at, e
	}
	for _, best := range list[1:] {
		washes = append(washes, best.washes)
	}
	return washes, 0, api.OK
}

// Fleet returns the fewest cleanings with which cargoes can be carried in several tanks.
func Fleet(r api.WashRules, tanks [][]api.TankEvent, jobs []int) (steps []api.WashStep, cost, at int, e api.Errno) {
	x, e := fleetTask(r, tanks, jobs)
	if e != api.OK {
		return nil, 0, 0, e
	}
	return x.plan()
}
