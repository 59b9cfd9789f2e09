package empties_test

import (
	"slices"
	"testing"

	"thalweg/api"
	"thalweg/empties"
)

// P6.7: for no prices is the bound greater than the cost of any possible moves, and it is that of Move for its prices.
func TestNoBoundIsGreater(t *testing.T) {
	d, found, tight := newDice(9), 0, 0
	for range 3000 {
		n := d.small()
		if move(n).e != api.OK {
			continue
		}
		found++
		_, sum, prices := expectMoves(t, n)
		if got, e := empties.Bound(n, prices); got != sum || e != api.OK {
			t.Fatalf("%v: the bound is %d, error %d, but Move costs %d", n, got, e, sum)
		}
		for range 20 {
			others := d.prices(n, d.from(0, 8))
			low, e := empties.Bound(n, others)
			if low > sum || e != api.OK {
				t.Fatalf("%v, %v: the bound is %d, error %d, but Move costs %d", n, others, low, e, sum)
			}
			if low == sum && sum > 0 {
				tight++
			}
		}
		for range 20 {
			other := d.moves(n)
			if high, e := empties.Cost(n, other); e == api.OK && high < sum {
				t.Fatalf("%v, %v: %d, but Move costs %d", n, other, high, sum)
			}
		}
	}
	if found < 500 || tight < 20 {
		t.Errorf("only %d nets, and %d bounds as great as the cost", found, tight)
	}
}

// P6.7: if prices prove moves, these have the least cost.
func TestProvedMovesAreBest(t *testing.T) {
	d, found := newDice(10), 0
	for range 2000 {
		n := d.small()
		best, some := least(n)
		if !some {
			continue
		}
		_, _, own := expectMoves(t, n)
		for moves := range allMoves(n) {
			if !possible(n, moves) {
				continue
			}
			for _, prices := range [][]int{own, d.prices(n, 4)} {
				if good, _ := empties.Proves(n, moves, prices); good && price(n, moves) != best {
					t.Fatalf("%v, %v, %v: proved, but %d is the least cost", n, moves, prices, best)
				} else if good {
					found++
				}
			}
			if good, _ := empties.Proves(n, moves, own); good != (price(n, moves) == best) {
				t.Fatalf("%v, %v, %v: %t, but %d is the least cost", n, moves, own, good, best)
			}
		}
	}
	if found < 500 {
		t.Errorf("only %d proofs", found)
	}
}

// P6.8: moves are possible just if the greatest lack is 0, and the set that Lacks returns has the lack that it returns.
func TestLackOrMoves(t *testing.T) {
	d, found := newDice(11), map[bool]int{}
	for i := range 3000 {
		n := d.middling()
		if i%20 == 0 {
			n = d.big()
		}
		list, lack, e := empties.Lacks(n)
		moves := move(n)
		if e != api.OK || (lack == 0) != (moves.e == api.OK) || lack == 0 && len(list) > 0 {
			t.Fatalf("%v: %v lack %d, errors %d and %d", n, list, lack, e, moves.e)
		}
		if got := lackOf(n, setOf(list)); got != lack || !slices.IsSorted(list) {
			t.Fatalf("%v: %v lack %d, not %d", n, list, got, lack)
		}
		found[lack == 0]++
	}
	if found[true] < 500 || found[false] < 500 {
		t.Errorf("only %v nets with and without moves", found)
	}
}

// P6.9: one hull more never costs more, and saves at most the price of the port; with one more that is wanted, the least cost is not less.
func TestOneHullMore(t *testing.T) {
	d, saving, dearer := newDice(12), 0, 0
	for range 1500 {
		n := d.middling()
		if move(n).e != api.OK {
			continue
		}
		_, sum, prices := expectMoves(t, n)
		for i := range n.Ports {
			saved, e := empties.More(n, i)
			if saved < 0 || saved > prices[i] || e != api.OK {
				t.Fatalf("%v, port %d: %d, error %d, the price is %d", n, i, saved, e, prices[i])
			}
			saving += min(1, saved)
			wanted := clone(n)
			wanted.Ports[i].Wants++
			_, now, _, f := empties.Move(wanted)
			if f == api.OK && now < sum {
				t.Fatalf("%v, port %d: with one more wanted %d, not %d", n, i, now, sum)
			}
			if now > sum {
				dearer++
			}
		}
	}
	if saving < 300 || dearer < 300 {
		t.Errorf("only %d hulls save something, and %d cost something", saving, dearer)
	}
}

// P6.9: More is at most the price of a port, for all prices that prove moves.
func TestMoreAndAllPrices(t *testing.T) {
	for _, prices := range [][]int{{0, 150, 200}, {0, 100, 150}, {0, 120, 170}} {
		if good, e := empties.Proves(example(), []int{3, 4, 0}, prices); !good || e != api.OK {
			t.Errorf("%v: %t, error %d", prices, good, e)
		}
		for i, most := range prices {
			if saved, e := empties.More(example(), i); saved > most || e != api.OK {
				t.Errorf("port %d: %d, more than %d; error %d", i, saved, most, e)
			}
		}
	}
}

// P6.10: in a plan of one week no hull moves.
func TestOneWeek(t *testing.T) {
	d, found := newDice(13), map[api.Errno]int{}
	for range 500 {
		w := d.weeks(1, d.from(1, 4), d.from(0, 9))
		n, e := empties.Expand(w)
		moves, sum, _, f := empties.Move(n)
		if e != api.OK || len(n.Ways) != 0 || len(moves) != 0 || sum != 0 {
			t.Fatalf("%v: %v, cost %d, error %d", w, moves, sum, e)
		}
		short := slices.ContainsFunc(w.Weeks[0], func(p api.EmptyPort) bool { return p.Wants > p.Has })
		if short != (f == api.ErrNone) {
			t.Fatalf("%v: error %d", w, f)
		}
		found[f]++
	}
	if found[api.OK] < 50 || found[api.ErrNone] < 50 {
		t.Errorf("only %v plans", found)
	}
}

// P6.10: with a week more in which nothing becomes empty or is wanted, the least cost is the same.
func TestAnotherWeek(t *testing.T) {
	d, found, paid := newDice(14), 0, 0
	for range 4000 {
		w := d.weeks(d.from(1, 6), d.from(2, 4), d.from(0, 8))
		n, _ := empties.Expand(w)
		_, before, _, e := empties.Move(n)
		w.Weeks = append(w.Weeks, make([]api.EmptyPort, len(w.Keep)))
		n, f := empties.Expand(w)
		_, now, _, g := empties.Move(n)
		if f != api.OK || g != e || now != before {
			t.Fatalf("%v: cost %d, errors %d and %d, before %d, error %d", w, now, f, g, before, e)
		}
		if e == api.OK {
			found++
			paid += min(1, now)
		}
	}
	if found < 300 || paid < 200 {
		t.Errorf("only %d plans, %d of which cost anything", found, paid)
	}
}
