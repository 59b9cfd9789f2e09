package empties_test

import (
	"math"
	"reflect"
	"slices"
	"testing"
	"time"

	"thalweg/api"
	"thalweg/empties"
)

// R4: no argument is changed.
func TestArgumentsStay(t *testing.T) {
	n, moves, prices, w := example(), []int{3, 4, 0}, []int{0, 150, 200}, plan()
	empties.Check(n)
	empties.Cost(n, moves)
	empties.Bound(n, prices)
	empties.Move(n)
	empties.Proves(n, moves, prices)
	empties.Lacks(n)
	empties.More(n, 2)
	empties.Expand(w)
	if !reflect.DeepEqual(n, example()) || !reflect.DeepEqual(w, plan()) {
		t.Errorf("a net or a plan was changed: %v, %v", n, w)
	}
	if !slices.Equal(moves, []int{3, 4, 0}) || !slices.Equal(prices, []int{0, 150, 200}) {
		t.Errorf("moves or prices were changed: %v, %v", moves, prices)
	}
}

// A result is new memory: to write into it changes neither an argument nor a later call.
func TestResultsAreNew(t *testing.T) {
	n, w := example(), plan()
	short := changed(func(n *api.EmptyNet) { n.Ports[2].Wants = 8 })
	for range 2 {
		moves, _, prices, _ := empties.Move(n)
		if !slices.Equal(moves, []int{3, 4, 0}) || !proof(n, moves, prices) {
			t.Errorf("%v, %v", moves, prices)
		}
		list, _, _ := empties.Lacks(short)
		if !slices.Equal(list, []int{0, 1, 2}) {
			t.Errorf("%v", list)
		}
		wide, _ := empties.Expand(w)
		if !reflect.DeepEqual(wide, netOf(plan())) {
			t.Errorf("%v", wide)
		}
		moves[0], prices[1], list[0], wide.Ports[0], wide.Ways[2] = 9, 9, 9, port(9, 9), way(9, 9, 9, 9)
	}
	single := api.EmptyWeeks{Weeks: [][]api.EmptyPort{ports(port(1, 1))}, Keep: []int{0}}
	if wide, _ := empties.Expand(single); len(wide.Ports) == 1 {
		wide.Ports[0].Has = 9
	}
	if !reflect.DeepEqual(n, example()) || !reflect.DeepEqual(w, plan()) || single.Weeks[0][0].Has != 1 {
		t.Errorf("an argument was changed: %v, %v, %v", n, w, single)
	}
}

// R3: nil and empty lists are the same.
func TestNilIsEmpty(t *testing.T) {
	for _, none := range [][]int{nil, {}} {
		for _, roads := range [][]api.EmptyWay{nil, {}} {
			n := api.EmptyNet{Ports: ports(port(1, 1)), Ways: roads}
			expect(t, "Cost", cost(n, none...), api.OK)
			expect(t, "Proves", proves(n, none, []int{7}), api.OK)
			expect(t, "no prices", bound(n, none...), api.ErrForm)
			moves, sum, prices, e := empties.Move(n)
			list, lack, f := empties.Lacks(n)
			if len(moves) != 0 || sum != 0 || len(prices) != 1 || len(list) != 0 || lack != 0 || e != api.OK || f != api.OK {
				t.Error(moves, sum, prices, list, lack, e, f)
			}
			expectInvalid(t, "no ports", api.EmptyNet{Ports: ports(), Ways: roads})
		}
		for _, roads := range [][]api.WeekWay{nil, {}} {
			single := api.EmptyWeeks{Weeks: [][]api.EmptyPort{ports(port(1, 1))}, Ways: roads, Keep: []int{1}}
			if n, e := empties.Expand(single); len(n.Ports) != 1 || len(n.Ways) != 0 || e != api.OK {
				t.Error(n, e)
			}
			expect(t, "nothing kept", expand(api.EmptyWeeks{Weeks: single.Weeks, Ways: roads, Keep: none}), api.ErrForm)
		}
	}
}

// P1: no function panics, or returns anything but zero values with an error, for the least and the greatest integers.
func TestExtremeNumbers(t *testing.T) {
	for _, x := range []int{math.MinInt, math.MinInt + 1, math.MaxInt - 1, math.MaxInt} {
		for name, change := range map[string]func(n *api.EmptyNet){
			"has":   func(n *api.EmptyNet) { n.Ports[0].Has = x },
			"wants": func(n *api.EmptyNet) { n.Ports[2].Wants = x },
			"from":  func(n *api.EmptyNet) { n.Ways[0].From = x },
			"to":    func(n *api.EmptyNet) { n.Ways[1].To = x },
			"cost":  func(n *api.EmptyNet) { n.Ways[2].Cost = x },
			"room":  func(n *api.EmptyNet) { n.Ways[0].Room = x },
		} {
			expectInvalid(t, name, changed(change))
		}
		expect(t, "Cost", cost(example(), 3, 4, x), api.ErrRange)
		expect(t, "Bound", bound(example(), 0, x, 0), api.ErrRange)
		expect(t, "Proves", proves(example(), []int{x, 4, 0}, nil), api.ErrRange)
		expect(t, "Proves", proves(example(), []int{3, 4, 0}, []int{0, 0, x}), api.ErrRange)
		expect(t, "More", more(example(), x), api.ErrNone)
		for name, change := range map[string]func(w *api.EmptyWeeks){
			"keep":  func(w *api.EmptyWeeks) { w.Keep[0] = x },
			"weeks": func(w *api.EmptyWeeks) { w.Ways[0].Weeks = x },
			"from":  func(w *api.EmptyWeeks) { w.Ways[0].From = x },
			"to":    func(w *api.EmptyWeeks) { w.Ways[0].To = x },
			"cost":  func(w *api.EmptyWeeks) { w.Ways[0].Cost = x },
			"room":  func(w *api.EmptyWeeks) { w.Ways[0].Room = x },
			"has":   func(w *api.EmptyWeeks) { w.Weeks[1][1].Has = x },
			"wants": func(w *api.EmptyWeeks) { w.Weeks[0][1].Wants = x },
		} {
			w := plan()
			change(&w)
			expect(t, "Expand: "+name, expand(w), api.ErrArg)
		}
	}
}

// chain returns a net of 60 ports in which 1000 hulls can only go from the first port to the last one, each way for the greatest cost.
func chain() api.EmptyNet {
	n := api.EmptyNet{Ports: make([]api.EmptyPort, 60)}
	n.Ports[0].Has, n.Ports[59].Wants = 1000, 1000
	for i := range 59 {
		n.Ways = append(n.Ways, way(i, i+1, 1000000, 1000))
	}
	return n
}

// P6.1, P6.2 and P6.3: the greatest numbers that are allowed have exact sums.
func TestGreatestNumbers(t *testing.T) {
	_, sum, _ := expectMoves(t, chain())
	if sum != 59000000000 {
		t.Errorf("cost %d", sum)
	}
	if saved, e := empties.More(chain(), 59); saved != 59000000 || e != api.OK {
		t.Errorf("%d, error %d", saved, e)
	}
	two := api.EmptyNet{Ports: slices.Repeat(ports(port(1000, 0), port(0, 1000)), 30), Ways: slices.Repeat(ways(way(0, 1, 1000000, 1000)), 300)}
	for i := range two.Ways {
		two.Ways[i].From, two.Ways[i].To = 2*(i%30), 2*(i%30)+1
	}
	if got, e := empties.Cost(two, slices.Repeat([]int{1000}, 300)); got != 0 || e != api.ErrState {
		t.Errorf("cost %d, error %d", got, e)
	}
	if got, e := empties.Bound(two, slices.Repeat([]int{0, 1000000000}, 30)); got != 30*1000*1000000000-300*1000*999000000 || e != api.OK {
		t.Errorf("bound %d, error %d", got, e)
	}
	round := api.EmptyNet{Ports: make([]api.EmptyPort, 2)}
	for i := range 300 {
		round.Ways = append(round.Ways, way(i%2, 1-i%2, 1000000, 1000))
	}
	if got, e := empties.Cost(round, slices.Repeat([]int{1000}, 300)); got != 300000000000 || e != api.OK {
		t.Errorf("cost %d, error %d", got, e)
	}
}

// layers returns a net of the greatest size in which hulls come step by step from a side with many to one without any.
func layers(d dice, cost, room int) api.EmptyNet {
	n := api.EmptyNet{Ports: make([]api.EmptyPort, 60)}
	for i := range 20 {
		n.Ports[i].Has, n.Ports[40+i].Wants = 1000, d.from(0, 1000)
	}
	for i := range 300 {
		n.Ways = append(n.Ways, way(d.from(0, 19)+i%2*20, d.from(20, 39)+i%2*20, d.from(0, cost), d.from(1, room)))
	}
	return n
}

// P1: nets of the greatest size need no long time, whatever they cost.
func TestBigNetsAreFast(t *testing.T) {
	d, begin := newDice(15), time.Now()
	for i := range 60 {
		n := layers(d, []int{0, 1, 1000, api.MaxEmptyCost}[i%4], []int{1, 30, 1000}[i%3])
		if _, lack, e := empties.Lacks(n); lack == 0 {
			expectMoves(t, n)
		} else if e != api.OK || move(n).e != api.ErrNone {
			t.Fatalf("%v: lack %d, error %d", n, lack, e)
		}
	}
	if spent := time.Since(begin); spent > 20*time.Second {
		t.Errorf("60 nets took %v", spent)
	}
}
