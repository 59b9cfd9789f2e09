package empties_test

import (
	"iter"
	"math/rand"
	"reflect"
	"slices"
	"testing"

	"thalweg/api"
	"thalweg/empties"
)

// port and way return parts of a net.
func port(has, wants int) api.EmptyPort { return api.EmptyPort{Has: has, Wants: wants} }

func way(from, to, cost, room int) api.EmptyWay {
	return api.EmptyWay{From: from, To: to, Cost: cost, Room: room}
}

// ports and ways return lists of them.
func ports(list ...api.EmptyPort) []api.EmptyPort { return list }

func ways(list ...api.EmptyWay) []api.EmptyWay { return list }

// example returns the net of the chapter's examples.
func example() api.EmptyNet {
	return api.EmptyNet{
		Ports: ports(port(5, 0), port(2, 1), port(0, 4)),
		Ways:  ways(way(0, 1, 100, 3), way(1, 2, 50, 9), way(0, 2, 200, 9)),
	}
}

// changed returns the net of the examples with a change.
func changed(change func(n *api.EmptyNet)) api.EmptyNet {
	n := example()
	change(&n)
	return n
}

// clone returns a net that shares no memory with another one.
func clone(n api.EmptyNet) api.EmptyNet {
	return api.EmptyNet{Ports: slices.Clone(n.Ports), Ways: slices.Clone(n.Ways)}
}

// outcome is the error of a call, and whether all its other results are zero values.
type outcome struct {
	e    api.Errno
	zero bool
}

// outcomeOf returns the outcome of a call with these results.
func outcomeOf(e api.Errno, results ...any) outcome {
	return outcome{e, !slices.ContainsFunc(results, func(x any) bool { return !reflect.ValueOf(x).IsZero() })}
}

// expect fails the test unless a call had an error, and zero values beside it.
func expect(t *testing.T, name string, got outcome, e api.Errno) {
	t.Helper()
	if got.e != e || e != api.OK && !got.zero {
		t.Errorf("%s: error %d, not %d; zero values: %t", name, got.e, e, got.zero)
	}
}

// The outcomes of the functions, by their names.

func cost(n api.EmptyNet, moves ...int) outcome {
	sum, e := empties.Cost(n, moves)
	return outcomeOf(e, sum)
}

func bound(n api.EmptyNet, prices ...int) outcome {
	sum, e := empties.Bound(n, prices)
	return outcomeOf(e, sum)
}

func move(n api.EmptyNet) outcome {
	moves, sum, prices, e := empties.Move(n)
	return outcomeOf(e, moves, sum, prices)
}

func proves(n api.EmptyNet, moves, prices []int) outcome {
	proof, e := empties.Proves(n, moves, prices)
	return outcomeOf(e, proof)
}

func lacks(n api.EmptyNet) outcome {
	list, lack, e := empties.Lacks(n)
	return outcomeOf(e, list, lack)
}

func more(n api.EmptyNet, port int) outcome {
	sum, e := empties.More(n, port)
	return outcomeOf(e, sum)
}

func expand(w api.EmptyWeeks) outcome {
	n, e := empties.Expand(w)
	return outcomeOf(e, n)
}

// expectInvalid fails the test unless all functions with a net say that it is not valid, whatever is wrong with their later arguments.
func expectInvalid(t *testing.T, name string, n api.EmptyNet) {
	t.Helper()
	if e := empties.Check(n); e != api.ErrArg {
		t.Errorf("%s: Check returns %d", name, e)
	}
	wrong := make([]int, 400)
	expect(t, name+": Cost", cost(n, wrong...), api.ErrArg)
	expect(t, name+": Bound", bound(n, wrong...), api.ErrArg)
	expect(t, name+": Move", move(n), api.ErrArg)
	expect(t, name+": Proves", proves(n, wrong, wrong), api.ErrArg)
	expect(t, name+": Lacks", lacks(n), api.ErrArg)
	expect(t, name+": More", more(n, -1), api.ErrArg)
}

// after returns how many hulls each port has after moves.
func after(n api.EmptyNet, moves []int) []int {
	var hulls []int
	for i, p := range n.Ports {
		here := p.Has
		for j, w := range n.Ways {
			if w.From == i {
				here -= moves[j]
			}
			if w.To == i {
				here += moves[j]
			}
		}
		hulls = append(hulls, here)
	}
	return hulls
}

// possible reports whether moves, each of which there is room for, bring what is wanted.
func possible(n api.EmptyNet, moves []int) bool {
	for i, here := range after(n, moves) {
		if here < n.Ports[i].Wants {
			return false
		}
	}
	return true
}

// price returns what moves cost.
func price(n api.EmptyNet, moves []int) int {
	sum := 0
	for i, w := range n.Ways {
		sum += moves[i] * w.Cost
	}
	return sum
}

// allMoves yields all lists with an integer from 0 to Room for each way.
func allMoves(n api.EmptyNet) iter.Seq[[]int] {
	return func(yield func([]int) bool) {
		moves := make([]int, len(n.Ways))
		for yield(moves) {
			i := 0
			for i < len(moves) && moves[i] == n.Ways[i].Room {
				moves[i] = 0
				i++
			}
			if i == len(moves) {
				return
			}
			moves[i]++
		}
	}
}

// least returns the least cost of possible moves, and whether there are any.
func least(n api.EmptyNet) (int, bool) {
	best, found := 0, false
	for moves := range allMoves(n) {
		if sum := price(n, moves); possible(n, moves) && (!found || sum < best) {
			best, found = sum, true
		}
	}
	return best, found
}

// lackOf returns the lack of a set of ports, whose numbers are bits.
func lackOf(n api.EmptyNet, set int) int {
	lack := 0
	for i, p := range n.Ports {
		lack += (p.Wants - p.Has) * (set >> i & 1)
	}
	for _, w := range n.Ways {
		lack -= w.Room * (set >> w.To & 1) * (1 - set>>w.From&1)
	}
	return lack
}

// greatestLack returns the greatest lack of all sets, and the ports that are in all sets with it.
func greatestLack(n api.EmptyNet) ([]int, int) {
	best, common := 0, 0
	for set := range 1 << len(n.Ports) {
		switch lack := lackOf(n, set); {
		case lack > best:
			best, common = lack, set
		case lack == best:
			common &= set
		}
	}
	var list []int
	for i := range n.Ports {
		if common>>i&1 == 1 {
			list = append(list, i)
		}
	}
	return list, best
}

// setOf returns a set of ports as bits.
func setOf(list []int) int {
	set := 0
	for _, i := range list {
		set |= 1 << i
	}
	return set
}

// dice makes nets that look random, but are the same in each run.
type dice struct {
	*rand.Rand
}

func newDice(seed int64) dice { return dice{rand.New(rand.NewSource(seed))} }

// from returns a number from low to high.
func (d dice) from(low, high int) int { return low + d.Intn(high-low+1) }

// way returns a way between two of some ports.
func (d dice) way(ports, cost, room int) api.EmptyWay {
	from := d.Intn(ports)
	return way(from, (from+d.from(1, ports-1))%ports, d.from(0, cost), d.from(0, room))
}

// ports returns ports, half of which want hulls, or lack them.
func (d dice) ports(number, has, wants int) []api.EmptyPort {
	var list []api.EmptyPort
	for range number {
		list = append(list, port(max(0, d.from(-has, has)), max(0, d.from(-wants, wants))))
	}
	return list
}

// net returns a net.
func (d dice) net(ports, ways, has, wants, cost, room int) api.EmptyNet {
	n := api.EmptyNet{Ports: d.ports(ports, has, wants)}
	for i := 0; i < ways && ports > 1; i++ {
		n.Ways = append(n.Ways, d.way(ports, cost, room))
	}
	return n
}

// small returns a net that is small enough for all its moves to be tried.
func (d dice) small() api.EmptyNet {
	return d.net(d.from(1, 4), d.from(0, 7), 4, 2, d.from(0, 5), 2)
}

// middling returns a net that is small enough for all sets of its ports to be tried.
func (d dice) middling() api.EmptyNet {
	return d.net(d.from(1, 9), d.from(0, 25), 30, 20, 50, 25)
}

// big returns a net as big as one can be.
func (d dice) big() api.EmptyNet {
	return d.net(api.MaxEmptyPorts, api.MaxEmptyWays, api.MaxEmptyHulls, 500, api.MaxEmptyCost, api.MaxEmptyHulls)
}

// prices returns any prices from 0 to high.
func (d dice) prices(n api.EmptyNet, high int) []int {
	var list []int
	for range n.Ports {
		list = append(list, d.from(0, high))
	}
	return list
}

// moves returns any integers for which there is room.
func (d dice) moves(n api.EmptyNet) []int {
	var list []int
	for _, w := range n.Ways {
		list = append(list, d.from(0, w.Room))
	}
	return list
}

// weeks returns a plan over weeks.
func (d dice) weeks(weeks, ports, ways int) api.EmptyWeeks {
	w := api.EmptyWeeks{}
	for range weeks {
		w.Weeks = append(w.Weeks, d.ports(ports, 4, 4))
	}
	for range ports {
		w.Keep = append(w.Keep, d.from(0, 9))
	}
	for i := 0; i < ways && ports > 1; i++ {
		w.Ways = append(w.Ways, api.WeekWay{EmptyWay: d.way(ports, 20, 9), Weeks: d.from(1, 3)})
	}
	return w
}
