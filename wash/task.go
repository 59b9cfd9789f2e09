package wash

import (
	"thalweg/api"
	"thalweg/numbers"
)

// none is the number of no kind of cleaning.
const none = -1

// fleet is what is left in each tank.
type fleet [api.MaxFleetTanks]tank

// task is cargoes that are to be carried, one after another, in tanks in which something is left.
type task struct {
	rules
	first fleet
	tanks int
	jobs  []int
}

// newTask returns a task with at most some cargoes for the tanks of some histories, or the error of it.
func newTask(r rules, histories [][]api.TankEvent, jobs []int, most int) (task, api.Errno) {
	if e := r.checkHistories(histories...); e != api.OK {
		return task{}, e
	}
	if len(jobs) > most {
		return task{}, api.ErrLong
	}
	if !numbers.Every(jobs, r.hasCargo) {
		return task{}, api.ErrArg
	}
	x := task{rules: r, tanks: len(histories), jobs: jobs}
	for i, l := range histories {
		x.first[i] = r.foulest(tank{}, l...)
	}
	return x, api.OK
}

// tankTask returns a task for one tank, or the error of it.
func tankTask(r api.WashRules, l []api.TankEvent, jobs []int) (task, api.Errno) {
	if e := Check(r); e != api.OK {
		return task{}, e
	}
	return newTask(rules{r}, [][]api.TankEvent{l}, jobs, api.MaxWashJobs)
}

// fleetTask returns a task for several tanks, or the error of it.
func fleetTask(r api.WashRules, tanks [][]api.TankEvent, jobs []int) (task, api.Errno) {
	if e := Check(r); e != api.OK {
		return task{}, e
	}
	if len(tanks) > api.MaxFleetTanks {
		return task{}, api.ErrLong
	}
	if len(tanks) == 0 {
		return task{}, api.ErrForm
	}
	return newTask(rules{r}, tanks, jobs, api.MaxFleetJobs)
}

// hasStep reports whether a step is in a tank, with a kind of cleaning or none.
func (x task) hasStep(step api.WashStep) bool {
	return numbers.Within(0, x.tanks-1, step.Tank) && (step.Wash == none || x.hasKind(step.Wash))
}

// carry returns what is left in the tank of a step when it has carried a cargo, and whether the cargo is surely acceptable.
func (r rules) carry(f fleet, step api.WashStep, cargo int) (tank, bool) {
	t := f[step.Tank]
	if step.Wash != none {
		t = r.foulest(t, api.TankEvent{Kind: api.TankWash, Number: step.Wash})
	}
	return r.foulest(t, api.TankEvent{Kind: api.TankLoad, Number: cargo}), r.accepts(t, cargo)
}

// Verify returns the first cargo that is not surely acceptable when steps are carried out, or -1, and then the number of cleanings and their cost.
func Verify(r api.WashRules, tanks [][]api.TankEvent, jobs []int, steps []api.WashStep) (at, washes, cost int, e api.Errno) {
	x, e := fleetTask(r, tanks, jobs)
	if e != api.OK {
		return 0, 0, 0, e
	}
	if len(steps) != len(jobs) {
		return 0, 0, 0, api.ErrForm
	}
	if !numbers.Every(steps, x.hasStep) {
		return 0, 0, 0, api.ErrArg
	}
	now, done := x.first, plan{}
	for i, step := range steps {
		after, sure := x.carry(now, step, jobs[i])
		if !sure {
			return i, 0, 0, api.OK
		}
		now[step.Tank] = after
		done = x.extend(done, step)
	}
	return -1, done.washes, done.cost, api.OK
}
