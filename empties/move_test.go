package empties_test

import (
	"slices"
	"testing"

	"thalweg/api"
	"thalweg/empties"
)

// expectMoves fails the test unless Move returns possible moves that cost what it says, and prices that prove them.
func expectMoves(t *testing.T, n api.EmptyNet) (moves []int, sum int, prices []int) {
	t.Helper()
	moves, sum, prices, e := empties.Move(n)
	if e != api.OK {
		t.Fatalf("%v: error %d", n, e)
	}
	for i, w := range n.Ways {
		if moves[i] < 0 || moves[i] > w.Room {
			t.Fatalf("%v: moves %v", n, moves)
		}
	}
	if len(moves) != len(n.Ways) || !possible(n, moves) || price(n, moves) != sum {
		t.Fatalf("%v: moves %v, cost %d", n, moves, sum)
	}
	if len(prices) != len(n.Ports) || slices.Min(prices) < 0 || slices.Max(prices) > api.MaxEmptyPrice || !proof(n, moves, prices) {
		t.Fatalf("%v: prices %v do not prove %v", n, prices, moves)
	}
	return moves, sum, prices
}

// P6.3: the example, and nets with few moves.
func TestMove(t *testing.T) {
	for name, x := range map[string]struct {
		net   api.EmptyNet
		moves []int
		cost  int
	}{
		"the example":      {example(), []int{3, 4, 0}, 500},
		"nothing wanted":   {changed(func(n *api.EmptyNet) { n.Ports[1].Wants, n.Ports[2].Wants = 0, 0 }), []int{0, 0, 0}, 0},
		"one port":         {api.EmptyNet{Ports: ports(port(4, 4))}, nil, 0},
		"its own hulls":    {changed(func(n *api.EmptyNet) { n.Ports[2].Has = 4 }), []int{0, 0, 0}, 0},
		"the cheaper way":  {changed(func(n *api.EmptyNet) { n.Ways[2].Cost = 49 }), []int{0, 0, 4}, 196},
		"a full way first": {changed(func(n *api.EmptyNet) { n.Ways[2].Room = 1 }), []int{3, 4, 0}, 500},
		"all that can go":  {changed(func(n *api.EmptyNet) { n.Ports[2].Wants = 6 }), []int{3, 4, 2}, 900},
		"a hull that passes on is taken back": {
			api.EmptyNet{
				Ports: ports(port(1, 0), port(1, 0), port(0, 1), port(0, 1)),
				Ways:  ways(way(0, 2, 1, 1), way(0, 3, 2, 1), way(1, 2, 10, 1)),
			},
			[]int{0, 1, 1}, 12,
		},
	} {
		moves, sum, _ := expectMoves(t, x.net)
		if !slices.Equal(moves, x.moves) || sum != x.cost {
			t.Errorf("%s: %v, cost %d", name, moves, sum)
		}
	}
}

// P6.3 and P6.8: no possible moves cost less, and ErrNone comes just if there are none.
func TestMoveAgainstAllMoves(t *testing.T) {
	d, found, moved := newDice(4), map[bool]int{}, 0
	for range 10000 {
		n := d.small()
		best, some := least(n)
		found[some]++
		if !some {
			expect(t, "Move", move(n), api.ErrNone)
			continue
		}
		if _, sum, _ := expectMoves(t, n); sum != best {
			t.Fatalf("%v: cost %d, not %d", n, sum, best)
		}
		moved += min(best, 1)
	}
	if found[true] < 1000 || found[false] < 1000 || moved < 300 {
		t.Errorf("only %v nets with and without moves, %d that cost anything", found, moved)
	}
}

// P6.3 and P6.7: prices prove the moves of nets that are too big for all moves to be tried.
func TestMoveInGreaterNets(t *testing.T) {
	d, found, moved := newDice(5), 0, 0
	for i := range 2000 {
		n := d.middling()
		if i%10 == 0 {
			n = d.big()
		}
		if move(n).e == api.OK {
			_, sum, prices := expectMoves(t, n)
			if boundOf(n, prices) != sum {
				t.Fatalf("%v: cost %d, but the prices %v bound it by %d", n, sum, prices, boundOf(n, prices))
			}
			found++
			moved += min(sum, 1)
		}
	}
	if found < 300 || moved < 200 {
		t.Errorf("only %d nets with moves, %d of which cost anything", found, moved)
	}
}

// P6.4: the examples, and sets to which ports could be added that change nothing.
func TestLacks(t *testing.T) {
	for name, x := range map[string]struct {
		change func(n *api.EmptyNet)
		ports  []int
		lack   int
	}{
		"nothing lacks":         {func(n *api.EmptyNet) {}, nil, 0},
		"8 wanted":              {func(n *api.EmptyNet) { n.Ports[2].Wants = 8 }, []int{0, 1, 2}, 2},
		"13 wanted, room for 1": {func(n *api.EmptyNet) { n.Ports[2].Wants, n.Ways[2].Room = 13, 1 }, []int{1, 2}, 8},
		"just enough":           {func(n *api.EmptyNet) { n.Ports[2].Wants = 6 }, nil, 0},
		"no ways":               {func(n *api.EmptyNet) { n.Ways = nil }, []int{2}, 4},
		"no ways, two lack":     {func(n *api.EmptyNet) { n.Ways, n.Ports[0].Has, n.Ports[0].Wants = nil, 2, 3 }, []int{0, 2}, 5},
		"a port that adds none": {func(n *api.EmptyNet) { n.Ways, n.Ports[1].Has = nil, 1 }, []int{2}, 4},
		"a way that adds none":  {func(n *api.EmptyNet) { n.Ways, n.Ports[1].Has = ways(way(1, 2, 5, 9)), 1 }, []int{1, 2}, 4},
		"away from the lack":    {func(n *api.EmptyNet) { n.Ways = ways(way(2, 1, 5, 9)) }, []int{2}, 4},
	} {
		n := changed(x.change)
		list, lack, e := empties.Lacks(n)
		if !slices.Equal(list, x.ports) || lack != x.lack || e != api.OK {
			t.Errorf("%s: %v lack %d, error %d", name, list, lack, e)
		}
	}
}

// P6.4: Lacks returns the greatest lack of all sets, and the ports that all sets with it have, in ascending order.
func TestLacksAgainstAllSets(t *testing.T) {
	d, found, wider := newDice(6), map[bool]int{}, 0
	for i := range 3000 {
		n := d.small()
		if i%2 == 0 {
			n = d.middling()
		}
		want, greatest := greatestLack(n)
		list, lack, e := empties.Lacks(n)
		if !slices.Equal(list, want) || lack != greatest || e != api.OK {
			t.Fatalf("%v: %v lack %d, error %d, not %v and %d", n, list, lack, e, want, greatest)
		}
		found[lack > 0]++
		for set := range 1 << len(n.Ports) {
			if lack > 0 && lackOf(n, set) == lack && set != setOf(list) {
				wider++
			}
		}
	}
	if found[true] < 500 || found[false] < 500 || wider < 200 {
		t.Errorf("only %v nets with and without a lack, %d with other sets", found, wider)
	}
}

// P6.5: the example.
func TestMore(t *testing.T) {
	for port, want := range []int{0, 100, 150} {
		if got, e := empties.More(example(), port); got != want || e != api.OK {
			t.Errorf("port %d: %d, error %d", port, got, e)
		}
	}
}

// P6.5: More is the difference of the least costs of all possible moves.
func TestMoreAgainstAllMoves(t *testing.T) {
	d, found := newDice(7), 0
	for range 10000 {
		n := d.small()
		before, some := least(n)
		for i := range n.Ports {
			richer := clone(n)
			richer.Ports[i].Has++
			now, _ := least(richer)
			saved, e := empties.More(n, i)
			if !some {
				expect(t, "More", more(n, i), api.ErrState)
			} else if saved != before-now || e != api.OK {
				t.Fatalf("%v, port %d: %d, not %d; error %d", n, i, saved, before-now, e)
			}
			found += min(1, saved)
		}
	}
	if found < 200 {
		t.Errorf("only %d ports with which more hulls save anything", found)
	}
}
