package empties_test

import (
	"testing"

	"thalweg/api"
	"thalweg/empties"
)

// P6.1: Cost returns the sum of Cost times the moves, and takes just the moves that are possible.
func TestCost(t *testing.T) {
	for _, x := range []struct {
		moves []int
		cost  int
	}{
		{[]int{3, 4, 0}, 500}, {[]int{0, 1, 3}, 650}, {[]int{0, 0, 4}, 800}, {[]int{3, 4, 2}, 900}, {[]int{2, 3, 1}, 550},
	} {
		if got, e := empties.Cost(example(), x.moves); got != x.cost || e != api.OK {
			t.Errorf("%v: %d, error %d", x.moves, got, e)
		}
	}
	d, good, bad := newDice(1), 0, 0
	for range 4000 {
		n := d.small()
		for moves := range allMoves(n) {
			got, e := empties.Cost(n, moves)
			switch {
			case possible(n, moves) && (e != api.OK || got != price(n, moves)):
				t.Fatalf("%v, %v: %d, error %d", n, moves, got, e)
			case !possible(n, moves) && (e != api.ErrState || got != 0):
				t.Fatalf("%v, %v: %d, error %d, but they are not possible", n, moves, got, e)
			case possible(n, moves):
				good++
			default:
				bad++
			}
		}
	}
	if good < 5000 || bad < 5000 {
		t.Errorf("only %d possible moves, and %d others", good, bad)
	}
}

// P6.1: hulls can pass through ports that have none, and go around in circles.
func TestPassing(t *testing.T) {
	n := api.EmptyNet{
		Ports: ports(port(1, 0), port(0, 0), port(0, 1)),
		Ways:  ways(way(0, 1, 3, 5), way(1, 2, 4, 5), way(2, 1, 9, 5)),
	}
	for _, x := range []struct {
		moves []int
		cost  int
		e     api.Errno
	}{
		{[]int{1, 1, 0}, 7, api.OK}, {[]int{1, 5, 4}, 59, api.OK}, {[]int{1, 5, 5}, 0, api.ErrState}, {[]int{2, 2, 0}, 0, api.ErrState},
	} {
		if got, e := empties.Cost(n, x.moves); got != x.cost || e != x.e {
			t.Errorf("%v: %d, error %d", x.moves, got, e)
		}
	}
}

// boundOf returns what P6.2 says of prices.
func boundOf(n api.EmptyNet, prices []int) int {
	sum := 0
	for i, p := range n.Ports {
		sum += prices[i] * (p.Wants - p.Has)
	}
	for _, w := range n.Ways {
		if gap := prices[w.To] - prices[w.From] - w.Cost; gap > 0 {
			sum -= w.Room * gap
		}
	}
	return sum
}

// P6.2: Bound is the worth of what is wanted, less the gaps of the ways.
func TestBound(t *testing.T) {
	for _, x := range []struct {
		prices []int
		bound  int
	}{
		{[]int{0, 150, 200}, 500},          // the document's
		{[]int{0, 100, 150}, 500},          // no gap
		{[]int{0, 0, 0}, 0},                //
		{[]int{0, 101, 0}, -104},           // a gap of 1, three times
		{[]int{0, 0, 50}, 200},             // just no gap
		{[]int{0, 0, 51}, 195},             // a gap of 1, nine times
		{[]int{7, 0, 0}, -35},              // a port that wants nothing
		{[]int{0, 0, 250}, 1000 - 9*(250)}, // two gaps, of 200 and 50
	} {
		if got, e := empties.Bound(example(), x.prices); got != x.bound || e != api.OK {
			t.Errorf("%v: %d, error %d", x.prices, got, e)
		}
	}
	d := newDice(2)
	for range 2000 {
		n := d.middling()
		prices := d.prices(n, 100)
		if got, e := empties.Bound(n, prices); got != boundOf(n, prices) || e != api.OK {
			t.Fatalf("%v, %v: %d, not %d; error %d", n, prices, got, boundOf(n, prices), e)
		}
	}
}

// proof reports what P6.3 says of prices and possible moves.
func proof(n api.EmptyNet, moves, prices []int) bool {
	for i, w := range n.Ways {
		to, all := prices[w.To], prices[w.From]+w.Cost
		if to < all && moves[i] > 0 || to > all && moves[i] < w.Room {
			return false
		}
	}
	for i, here := range after(n, moves) {
		if here > n.Ports[i].Wants && prices[i] > 0 {
			return false
		}
	}
	return true
}

// P6.3: prices prove moves by the ways, and by the ports that have more than they want.
func TestProves(t *testing.T) {
	for _, x := range []struct {
		moves, prices []int
		proof         bool
	}{
		{[]int{3, 4, 0}, []int{0, 150, 200}, true},
		{[]int{3, 4, 0}, []int{0, 100, 150}, true},
		{[]int{3, 4, 0}, []int{0, 149, 199}, true},
		{[]int{3, 4, 0}, []int{0, 151, 201}, false}, // the way 0 to 2 would have to be full
		{[]int{3, 4, 0}, []int{0, 99, 149}, false},  // on the way 0 to 1 nothing would go
		{[]int{3, 4, 0}, []int{1, 150, 200}, false}, // 0 has hulls to spare
		{[]int{3, 4, 0}, []int{0, 150, 199}, false}, // on the way 1 to 2 nothing would go
		{[]int{3, 4, 0}, []int{0, 150, 201}, false}, // the way 1 to 2 would have to be full
		{[]int{2, 3, 1}, []int{0, 150, 200}, false}, // the way 0 to 1 is not full
		{[]int{3, 3, 1}, []int{0, 150, 200}, false}, // 1 has a hull to spare
		{[]int{3, 4, 0}, []int{0, 0, 0}, false},
	} {
		if got, e := empties.Proves(example(), x.moves, x.prices); got != x.proof || e != api.OK {
			t.Errorf("%v, %v: %t, error %d", x.moves, x.prices, got, e)
		}
	}
	d, found := newDice(3), map[bool]int{}
	for range 1500 {
		n := d.small()
		for moves := range allMoves(n) {
			prices := d.prices(n, d.from(0, 4))
			if !possible(n, moves) {
				continue
			}
			want := proof(n, moves, prices)
			if got, e := empties.Proves(n, moves, prices); got != want || e != api.OK {
				t.Fatalf("%v, %v, %v: %t, error %d", n, moves, prices, got, e)
			}
			found[want]++
		}
	}
	if found[true] < 300 || found[false] < 300 {
		t.Errorf("only %v proofs", found)
	}
}

// P6.3: no prices prove an empty port's wish that is met exactly to be worth nothing, and without ways only spare hulls matter.
func TestProvesWithoutWays(t *testing.T) {
	n := api.EmptyNet{Ports: ports(port(3, 3), port(3, 2))}
	for _, x := range []struct {
		prices []int
		proof  bool
	}{{[]int{0, 0}, true}, {[]int{1000000000, 0}, true}, {[]int{0, 1}, false}} {
		if got, e := empties.Proves(n, nil, x.prices); got != x.proof || e != api.OK {
			t.Errorf("%v: %t, error %d", x.prices, got, e)
		}
	}
}
