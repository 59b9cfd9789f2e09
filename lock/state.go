package lock

import (
	"slices"

	"thalweg/api"
	"thalweg/numbers"
)

// chamber is a lock whose High is the level at which it is now, with by how much its water has changed.
type chamber struct {
	api.Lock
	api.LockWater
	moves int // how often it was filled or emptied
}

// move fills or empties the chamber: what it is not at, it comes to.
func (c *chamber) move() {
	c.moves++
	c.High = !c.High
	if c.High {
		c.Upper -= c.Fill - c.Basin
		c.Basin = 0
		c.Chamber += c.Fill
		return
	}
	saved := c.Fill * c.Save / 100
	c.Basin += saved
	c.Lower += c.Fill - saved
	c.Chamber -= c.Fill
}

// displace moves the water of tows that pass to where they came from.
func (c *chamber) displace(tows ...api.LockTow) {
	for _, t := range tows {
		if t.Up {
			c.Upper -= t.Push
			c.Lower += t.Push
		} else {
			c.Upper += t.Push
			c.Lower -= t.Push
		}
	}
}

// state is how far a plan is carried out.
type state struct {
	chamber
	plan  []api.LockStep // the steps so far
	taken counts
	free  int // the minute from which on the chamber is free
	cost  int
}

// begin returns the state before the first step of a plan for tows.
func begin(l api.Lock, tows []api.LockTow) state {
	s := state{chamber: chamber{Lock: l}}
	// Each complete plan takes all tows. If their water is moved before all steps, no later step brings water to the upper reach.
	s.displace(tows...)
	return s
}

// next returns the tows that a step takes, of which there are as many.
func (s state) next(q queues, step api.LockStep) []api.LockTow {
	d := heading(step.Up)
	return q[d][s.taken[d] : s.taken[d]+step.Tows]
}

// fit reports whether a step can take tows: one alone, or several that are in the chamber together.
func (s state) fit(tows ...api.LockTow) bool {
	length := 0
	for _, t := range tows {
		length += t.Length
	}
	return len(tows) == 1 || length <= s.Length
}

// carry returns the state after a step with tows that fit, and when the step begins and ends.
func (s state) carry(step api.LockStep, tows ...api.LockTow) (state, api.LockRun) {
	if s.High == step.Up {
		s.move()
		s.free += s.Turn
	}
	run, parts := api.LockRun{Start: s.free}, 1
	for _, t := range tows {
		run.Start = max(run.Start, t.Arrive)
		parts = max(parts, numbers.Up(t.Length, s.Length))
	}
	run.End = run.Start + parts*s.Cycle + (parts-1)*s.Turn
	for range 2*parts - 1 { // each part, and the empty turns between them
		s.move()
	}
	for _, t := range tows {
		s.cost += t.Weight * (run.End - t.Arrive)
	}
	s.plan = append(slices.Clone(s.plan), step) // other states go on from the same steps
	s.taken[heading(step.Up)] += step.Tows
	s.free = run.End
	return s, run
}

// carryOut returns the state after all steps of a plan, and when each of them begins and ends, or the error of the plan.
func carryOut(l api.Lock, tows []api.LockTow, plan []api.LockStep) (state, []api.LockRun, api.Errno) {
	q, e := gather(l, tows)
	if e != api.OK {
		return state{}, nil, e
	}
	if !q.complete(plan) {
		return state{}, nil, api.ErrForm
	}
	s, runs := begin(l, tows), make([]api.LockRun, len(plan))
	for i, step := range plan {
		next := s.next(q, step)
		if !s.fit(next...) {
			return state{}, nil, api.ErrFull
		}
		s, runs[i] = s.carry(step, next...)
	}
	return s, runs, api.OK
}

// Run carries out a plan.
func Run(l api.Lock, tows []api.LockTow, plan []api.LockStep) (runs []api.LockRun, cost, moves int, e api.Errno) {
	s, runs, e := carryOut(l, tows, plan)
	return runs, s.cost, s.moves, e
}

// Water returns by how much the water changes with a plan.
func Water(l api.Lock, tows []api.LockTow, plan []api.LockStep) (api.LockWater, api.Errno) {
	s, _, e := carryOut(l, tows, plan)
	return s.LockWater, e
}
