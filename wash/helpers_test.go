package wash_test

import (
	"cmp"
	"math/rand"
	"reflect"
	"slices"
	"testing"

	"thalweg/api"
	"thalweg/wash"
)

// to returns bounds.
func to(low, high int) api.Bounds { return api.Bounds{Low: low, High: high} }

// at returns bounds of a single number.
func at(n int) api.Bounds { return to(n, n) }

// load and clean return an event of a history.
func load(cargo int) api.TankEvent { return api.TankEvent{Kind: api.TankLoad, Number: cargo} }

func clean(kind int) api.TankEvent { return api.TankEvent{Kind: api.TankWash, Number: kind} }

// events returns a history.
func events(list ...api.TankEvent) []api.TankEvent { return list }

// step returns a step of a plan.
func step(tank, wash int) api.WashStep { return api.WashStep{Tank: tank, Wash: wash} }

// steps returns a plan.
func steps(list ...api.WashStep) []api.WashStep { return list }

// histories returns the histories of some tanks.
func histories(list ...[]api.TankEvent) [][]api.TankEvent { return list }

// example returns the rules of the chapter's examples.
func example() api.WashRules {
	return api.WashRules{
		Levels: []int{100, 60, 40},
		Fade:   to(10, 20),
		Allow:  [][]int{{100, 0, 30}, {60, 60, 0}, {40, 40, 40}},
		Apart:  [][]int{{0, 1, 0}, {0, 0, 0}, {0, 0, 0}},
		Kinds: []api.WashKind{
			{Power: to(30, 40), Minutes: 60, Water: 5, Cost: 20000},
			{Power: to(100, 120), Minutes: 240, Water: 20, Cost: 90000},
		},
	}
}

// changed returns the rules of the examples with a change.
func changed(change func(r *api.WashRules)) api.WashRules {
	r := example()
	change(&r)
	return r
}

// square returns n lists of n times a number.
func square(n, number int) [][]int {
	var lists [][]int
	for range n {
		lists = append(lists, slices.Repeat([]int{number}, n))
	}
	return lists
}

// single returns rules for one cargo, which leaves 100 and is carried with at most some of it left.
func single(allow int, kinds ...api.WashKind) api.WashRules {
	return api.WashRules{Levels: []int{100}, Allow: square(1, allow), Apart: square(1, 0), Kinds: kinds}
}

// kind returns a kind of cleaning that surely reduces residues by a number, for a cost.
func kind(power, cost int) api.WashKind { return api.WashKind{Power: at(power), Cost: cost} }

// outcome is the error of a call, and whether all its other results are zero values.
type outcome struct {
	e    api.Errno
	zero bool
}

// outcomeOf returns the outcome of a call with these results.
func outcomeOf(e api.Errno, results ...any) outcome {
	return outcome{e, !slices.ContainsFunc(results, func(x any) bool { return !reflect.ValueOf(x).IsZero() })}
}

// expect fails the test unless a call had an error, and zero values beside it.
func expect(t *testing.T, name string, got outcome, e api.Errno) {
	t.Helper()
	if got.e != e || e != api.OK && !got.zero {
		t.Errorf("%s: error %d, not %d; zero values: %t", name, got.e, e, got.zero)
	}
}

// The outcomes of the functions, by their names.

func residues(r api.WashRules, l []api.TankEvent) outcome {
	list, e := wash.Residues(r, l)
	return outcomeOf(e, list)
}

func may(r api.WashRules, l []api.TankEvent, cargo int) outcome {
	surely, possibly, e := wash.May(r, l, cargo)
	return outcomeOf(e, surely, possibly)
}

func audit(r api.WashRules, l []api.TankEvent) outcome {
	breaches, e := wash.Audit(r, l)
	return outcomeOf(e, breaches)
}

func slops(r api.WashRules, l []api.TankEvent) outcome {
	lists, e := wash.Slops(r, l)
	return outcomeOf(e, lists)
}

func bill(r api.WashRules, l []api.TankEvent) outcome {
	minutes, water, cost, e := wash.Bill(r, l)
	return outcomeOf(e, minutes, water, cost)
}

func plan(r api.WashRules, l []api.TankEvent, jobs []int) outcome {
	washes, cost, at, e := wash.Plan(r, l, jobs)
	return outcomeOf(e, washes, cost, at)
}

func fewest(r api.WashRules, l []api.TankEvent, jobs []int) outcome {
	washes, at, e := wash.Fewest(r, l, jobs)
	return outcomeOf(e, washes, at)
}

func fleet(r api.WashRules, tanks [][]api.TankEvent, jobs []int) outcome {
	list, cost, at, e := wash.Fleet(r, tanks, jobs)
	return outcomeOf(e, list, cost, at)
}

func verify(r api.WashRules, tanks [][]api.TankEvent, jobs []int, list []api.WashStep) outcome {
	at, washes, cost, e := wash.Verify(r, tanks, jobs, list)
	return outcomeOf(e, at, washes, cost)
}

// expectAll fails the test unless all functions with a history have an error, whatever is wrong with their later arguments.
func expectAll(t *testing.T, name string, r api.WashRules, l []api.TankEvent, e api.Errno) {
	t.Helper()
	many := make([]int, 11)
	expect(t, name+": Residues", residues(r, l), e)
	expect(t, name+": May", may(r, l, -1), e)
	expect(t, name+": Audit", audit(r, l), e)
	expect(t, name+": Slops", slops(r, l), e)
	expect(t, name+": Bill", bill(r, l), e)
	expect(t, name+": Plan", plan(r, l, many), e)
	expect(t, name+": Fewest", fewest(r, l, many), e)
	expect(t, name+": Fleet", fleet(r, histories(nil, l), many), e)
	expect(t, name+": Verify", verify(r, histories(nil, l), many, steps(step(9, 9))), e)
}

// vat is a tank in which one truth is carried out.
type vat struct {
	residues []int // of each cargo
	cargoes  []int // in the order in which they were carried
}

func newVat(r api.WashRules) vat { return vat{residues: make([]int, len(r.Levels))} }

// follow returns a vat after an event that reduces residues by a number.
func (v vat) follow(r api.WashRules, e api.TankEvent, number int) vat {
	next := vat{cargoes: slices.Clone(v.cargoes)}
	for _, residue := range v.residues {
		next.residues = append(next.residues, max(residue-number, 0))
	}
	if e.Kind == api.TankLoad {
		next.residues[e.Number] = r.Levels[e.Number]
		next.cargoes = append(next.cargoes, e.Number)
	}
	return next
}

// breach reports whether a cargo is not acceptable because of what was carried before.
func (v vat) breach(r api.WashRules, before, cargo int) bool {
	for later := range v.cargoes {
		if v.cargoes[len(v.cargoes)-1-later] == before {
			return v.residues[before] > r.Allow[before][cargo] || later < r.Apart[before][cargo]
		}
	}
	return false
}

// accepts reports whether a cargo is acceptable.
func (v vat) accepts(r api.WashRules, cargo int) bool {
	for before := range r.Levels {
		if v.breach(r, before, cargo) {
			return false
		}
	}
	return true
}

// reduction returns the bounds of the number by which an event reduces residues.
func reduction(r api.WashRules, e api.TankEvent) api.Bounds {
	if e.Kind == api.TankWash {
		return r.Kinds[e.Number].Power
	}
	return r.Fade
}

// foul returns a vat after events, each of which reduces residues as little as it can.
func foul(r api.WashRules, l ...api.TankEvent) vat {
	v := newVat(r)
	for _, e := range l {
		v = v.follow(r, e, reduction(r, e).Low)
	}
	return v
}

// list is steps that carry cargoes, with their cleanings and their cost.
type list struct {
	steps        []api.WashStep
	washes, cost int
}

// compareLists compares two lists: by their cleanings, their cost, and their steps.
func compareLists(a, b list) int {
	return cmp.Or(cmp.Compare(a.washes, b.washes), cmp.Compare(a.cost, b.cost), slices.CompareFunc(a.steps, b.steps, func(x, y api.WashStep) int {
		return cmp.Or(cmp.Compare(x.Tank, y.Tank), cmp.Compare(x.Wash, y.Wash))
	}))
}

// allLists yields all lists of steps that carry cargoes in vats.
func allLists(r api.WashRules, vats []vat, jobs []int, so list, yield func(list)) {
	if len(jobs) == 0 {
		yield(so)
		return
	}
	for i, v := range vats {
		for kind := -1; kind < len(r.Kinds); kind++ {
			more, now := list{append(slices.Clone(so.steps), step(i, kind)), so.washes, so.cost}, v
			if kind >= 0 {
				now = v.follow(r, clean(kind), r.Kinds[kind].Power.Low)
				more.washes++
				more.cost += r.Kinds[kind].Cost
			}
			if now.accepts(r, jobs[0]) {
				next := slices.Clone(vats)
				next[i] = now.follow(r, load(jobs[0]), r.Fade.Low)
				allLists(r, next, jobs[1:], more, yield)
			}
		}
	}
}

// answer is the best list, or the first cargo for which there is none.
type answer struct {
	list
	at    int
	e     api.Errno
	equal int // how many lists have as few cleanings and cost as little
}

// bruteForce returns the answer that all lists give.
func bruteForce(r api.WashRules, tanks [][]api.TankEvent, jobs []int) answer {
	var vats []vat
	for _, l := range tanks {
		vats = append(vats, foul(r, l...))
	}
	var last answer
	for n := range len(jobs) + 1 {
		got := answer{at: n - 1, e: api.ErrNone}
		allLists(r, vats, jobs[:n], list{}, func(x list) {
			if got.e == api.ErrNone || x.washes < got.washes || x.washes == got.washes && x.cost < got.cost {
				got.equal = 0
			}
			got.equal++
			if got.e == api.ErrNone || compareLists(x, got.list) < 0 {
				got = answer{list: x, e: api.OK, equal: got.equal}
			}
		})
		if last = got; got.e != api.OK {
			break
		}
	}
	return last
}

// dice makes rules and histories that look random, but are the same in each run.
type dice struct {
	*rand.Rand
}

func newDice(seed int64) dice { return dice{rand.New(rand.NewSource(seed))} }

// from returns a number from low to high.
func (d dice) from(low, high int) int { return low + d.Intn(high-low+1) }

// bounds returns bounds that are valid from low to high, and at most width wide.
func (d dice) bounds(low, high, width int) api.Bounds {
	a := d.from(low, high)
	return to(a, min(high, a+d.from(0, width)))
}

// rules returns rules for up to some cargoes, with up to some kinds of cleaning.
func (d dice) rules(cargoes, kinds int) api.WashRules {
	n := d.from(1, cargoes)
	r := api.WashRules{Fade: d.bounds(0, 3, 2), Allow: square(n, 0), Apart: square(n, 0)}
	for p := range n {
		r.Levels = append(r.Levels, d.from(0, 12))
		for c := range n {
			r.Allow[p][c] = d.from(0, 14)
			r.Apart[p][c] = max(0, d.from(-6, 2))
		}
	}
	for range d.from(0, kinds) {
		r.Kinds = append(r.Kinds, api.WashKind{
			Power: d.bounds(0, 9, 2), Minutes: d.from(0, 9), Water: d.from(0, 9), Cost: d.from(0, 3),
		})
	}
	return r
}

// history returns a history of up to some events.
func (d dice) history(r api.WashRules, most int) []api.TankEvent {
	var l []api.TankEvent
	for range d.from(0, most) {
		if n := len(r.Kinds); n > 0 && d.Intn(3) == 0 {
			l = append(l, clean(d.Intn(n)))
		} else {
			l = append(l, load(d.Intn(len(r.Levels))))
		}
	}
	return l
}

// histories returns the histories of n tanks.
func (d dice) histories(r api.WashRules, n, most int) [][]api.TankEvent {
	var tanks [][]api.TankEvent
	for range n {
		tanks = append(tanks, d.history(r, most))
	}
	return tanks
}

// jobs returns n cargoes.
func (d dice) jobs(r api.WashRules, n int) []int {
	var jobs []int
	for range n {
		jobs = append(jobs, d.Intn(len(r.Levels)))
	}
	return jobs
}

// steps returns any steps for n cargoes in some tanks.
func (d dice) steps(r api.WashRules, tanks, n int) []api.WashStep {
	var list []api.WashStep
	for range n {
		list = append(list, step(d.Intn(tanks), d.from(-1, len(r.Kinds)-1)))
	}
	return list
}
