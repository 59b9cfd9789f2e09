package lock_test

import (
	"math/rand"
	"reflect"
	"slices"
	"testing"

	"thalweg/api"
	"thalweg/lock"
)

// to returns bounds.
func to(low, high int) api.Bounds { return api.Bounds{Low: low, High: high} }

// at returns bounds of a single number.
func at(n int) api.Bounds { return to(n, n) }

// example returns the lock of the chapter's examples.
func example() api.Lock {
	return api.Lock{Length: 100, Cycle: 20, Turn: 10, Fill: 1000, Save: 40}
}

// high returns a lock whose chamber is at the high level at first.
func high(l api.Lock) api.Lock {
	l.High = true
	return l
}

// three returns the tows of the chapter's example 1.
func three() []api.LockTow {
	return []api.LockTow{
		{Up: true, Arrive: 0, Length: 60, Weight: 1, Push: 500},
		{Up: false, Arrive: 5, Length: 80, Weight: 2, Push: 300},
		{Up: true, Arrive: 10, Length: 30, Weight: 1, Push: 0},
	}
}

// rising and sinking return a tow that goes up, or down, and counts 1.
func rising(arrive, length int) api.LockTow {
	return api.LockTow{Up: true, Arrive: arrive, Length: length, Weight: 1}
}

func sinking(arrive, length int) api.LockTow {
	return api.LockTow{Arrive: arrive, Length: length, Weight: 1}
}

// light returns tows whose waiting does not count.
func light(tows ...api.LockTow) []api.LockTow {
	for i := range tows {
		tows[i].Weight = 0
	}
	return tows
}

// up and down return a step of a plan.
func up(tows int) api.LockStep { return api.LockStep{Up: true, Tows: tows} }

func down(tows int) api.LockStep { return api.LockStep{Tows: tows} }

// steps returns a plan.
func steps(list ...api.LockStep) []api.LockStep { return list }

// outcome is the error of a call, and whether all its other results are zero values.
type outcome struct {
	e    api.Errno
	zero bool
}

// outcomeOf returns the outcome of a call with these results.
func outcomeOf(e api.Errno, results ...any) outcome {
	return outcome{e, !slices.ContainsFunc(results, func(x any) bool { return !reflect.ValueOf(x).IsZero() })}
}

// expect fails the test unless a call had an error, and zero values beside it.
func expect(t *testing.T, name string, got outcome, e api.Errno) {
	t.Helper()
	if got.e != e || e != api.OK && !got.zero {
		t.Errorf("%s: error %d, not %d; zero values: %t", name, got.e, e, got.zero)
	}
}

// The outcomes of the functions, by their names.

func run(l api.Lock, tows []api.LockTow, plan []api.LockStep) outcome {
	runs, cost, moves, e := lock.Run(l, tows, plan)
	return outcomeOf(e, runs, cost, moves)
}

func water(l api.Lock, tows []api.LockTow, plan []api.LockStep) outcome {
	w, e := lock.Water(l, tows, plan)
	return outcomeOf(e, w)
}

func best(l api.Lock, tows []api.LockTow) outcome {
	plan, cost, e := lock.Best(l, tows)
	return outcomeOf(e, plan, cost)
}

func thrift(l api.Lock, tows []api.LockTow, most int) outcome {
	plan, cost, e := lock.Thrift(l, tows, most)
	return outcomeOf(e, plan, cost)
}

func days(reaches []api.LockReach, locks []api.LockTraffic, n int) outcome {
	ends, e := lock.Days(reaches, locks, n)
	return outcomeOf(e, ends)
}

func short(reaches []api.LockReach, locks []api.LockTraffic, n int) outcome {
	day, reach, surely, e := lock.Short(reaches, locks, n)
	return outcomeOf(e, day, reach, surely)
}

// expectAll fails the test unless all functions with a lock and tows have an error.
func expectAll(t *testing.T, name string, l api.Lock, tows []api.LockTow, plan []api.LockStep, e api.Errno) {
	t.Helper()
	expect(t, name+": Run", run(l, tows, plan), e)
	expect(t, name+": Water", water(l, tows, plan), e)
	expect(t, name+": Best", best(l, tows), e)
	expect(t, name+": Thrift", thrift(l, tows, 1<<40), e)
}

// dice makes locks and tows that look random, but are the same in each run.
type dice struct {
	*rand.Rand
}

func newDice(seed int64) dice { return dice{rand.New(rand.NewSource(seed))} }

// from returns a number from low to high.
func (d dice) from(low, high int) int { return low + d.Intn(high-low+1) }

// either returns one of two numbers.
func (d dice) either(a, b int) int { return []int{a, b}[d.Intn(2)] }

// bounds returns bounds that are valid from low to high.
func (d dice) bounds(low, high int) api.Bounds {
	a, b := d.from(low, high), d.from(low, high)
	return to(min(a, b), max(a, b))
}

// lock returns a lock.
func (d dice) lock() api.Lock {
	return api.Lock{
		Length: d.from(40, 120), Cycle: d.from(1, 30), Turn: d.from(0, 30),
		Fill: d.from(0, 1000), Save: d.from(0, 90), High: d.Intn(2) == 0,
	}
}

// tows returns n tows, some of which arrive at the same time, are alike, or are longer than the chamber.
func (d dice) tows(l api.Lock, n int) []api.LockTow {
	var list []api.LockTow
	for range n {
		list = append(list, api.LockTow{
			Up: d.Intn(2) == 0, Arrive: 10 * d.from(0, 9), Length: d.from(1, d.either(60, 3*l.Length)),
			Weight: d.from(0, 3), Push: d.from(0, 500),
		})
	}
	return list
}

// plan returns a complete plan in which all tows fit.
func (d dice) plan(t *testing.T, l api.Lock, tows []api.LockTow) []api.LockStep {
	for range 10000 {
		var plan []api.LockStep
		left := tally(tows)
		for left != [2]int{} {
			if way := d.Intn(2); left[way] > 0 {
				n := d.from(1, min(left[way], d.from(1, 3)))
				plan = append(plan, api.LockStep{Up: way == 1, Tows: n})
				left[way] -= n
			}
		}
		if _, _, _, e := lock.Run(l, tows, plan); e == api.OK {
			return plan
		}
	}
	t.Fatalf("no plan for %v", tows)
	return nil
}

// tally returns how many tows go down, and how many up.
func tally(tows []api.LockTow) (n [2]int) {
	for _, x := range tows {
		if x.Up {
			n[1]++
		} else {
			n[0]++
		}
	}
	return n
}
