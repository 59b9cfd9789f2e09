package wash_test

import (
	"reflect"
	"slices"
	"testing"

	"thalweg/api"
	"thalweg/wash"
)

// P5.2 and example 1: the bounds of the residues after a history.
func TestResidues(t *testing.T) {
	for name, x := range map[string]struct {
		l    []api.TankEvent
		want []api.Bounds
	}{
		"a clean tank":        {nil, []api.Bounds{at(0), at(0), at(0)}},
		"W0, when clean":      {events(clean(0)), []api.Bounds{at(0), at(0), at(0)}},
		"L1":                  {events(load(1)), []api.Bounds{at(0), at(60), at(0)}},
		"L0 W0":               {events(load(0), clean(0)), []api.Bounds{to(60, 70), at(0), at(0)}},
		"L0 W0 L2":            {events(load(0), clean(0), load(2)), []api.Bounds{to(40, 60), at(0), at(40)}},
		"L0 W0 W0":            {events(load(0), clean(0), clean(0)), []api.Bounds{to(20, 40), at(0), at(0)}},
		"L0 W1":               {events(load(0), clean(1)), []api.Bounds{at(0), at(0), at(0)}},
		"L0 L1 L2":            {events(load(0), load(1), load(2)), []api.Bounds{to(60, 80), to(40, 50), at(40)}},
		"L0 W0 L0":            {events(load(0), clean(0), load(0)), []api.Bounds{at(100), at(0), at(0)}},
		"L2 W0, not below 0":  {events(load(2), clean(0)), []api.Bounds{at(0), at(0), to(0, 10)}},
		"L2 W0 W0, then zero": {events(load(2), clean(0), clean(0)), []api.Bounds{at(0), at(0), at(0)}},
		"L2 L1 L1 L1, faded":  {events(load(2), load(1), load(1), load(1)), []api.Bounds{at(0), at(60), to(0, 10)}},
		"L1 L1, not its own":  {events(load(1), load(1)), []api.Bounds{at(0), at(60), at(0)}},
		"L0 W1 L2 L1":         {events(load(0), clean(1), load(2), load(1)), []api.Bounds{at(0), at(60), to(20, 30)}},
	} {
		got, e := wash.Residues(example(), x.l)
		if !slices.Equal(got, x.want) || e != api.OK {
			t.Errorf("%s: %v, error %d", name, got, e)
		}
	}
}

// P5.3 and example 2: whether a cargo is surely, and possibly, acceptable.
func TestMay(t *testing.T) {
	for name, x := range map[string]struct {
		l                []api.TankEvent
		cargo            int
		surely, possibly bool
	}{
		"a clean tank":                     {nil, 1, true, true},
		"0 was not carried":                {events(load(2)), 1, true, true},
		"0 after L0 W0 W0, not surely":     {events(load(0), clean(0), clean(0)), 2, false, true},
		"2 after L0 W1":                    {events(load(0), clean(1)), 2, true, true},
		"1 after L0 W1, too close":         {events(load(0), clean(1)), 1, false, false},
		"1 after L0 W1 L2, not too close":  {events(load(0), clean(1), load(2)), 1, true, true},
		"1 after L0 W1 L2 W1 L0, close":    {events(load(0), clean(1), load(2), clean(1), load(0), clean(1)), 1, false, false},
		"the same once more":               {events(load(0)), 0, true, true},
		"2 after L0 W0, surely not":        {events(load(0), clean(0)), 2, false, false},
		"0 after L2, as much as allowed":   {events(load(2)), 0, true, true},
		"2 after L1 W0 W0, all of it gone": {events(load(1), clean(0), clean(0)), 2, true, true},
	} {
		surely, possibly, e := wash.May(example(), x.l, x.cargo)
		if surely != x.surely || possibly != x.possibly || e != api.OK {
			t.Errorf("%s: surely %t, possibly %t, error %d", name, surely, possibly, e)
		}
	}
}

// P5.3: at most Allow, to the last unit, also of the cargo itself.
func TestMayAtTheLimit(t *testing.T) {
	for allow, want := range map[int][2]bool{59: {false, false}, 60: {false, true}, 69: {false, true}, 70: {true, true}} {
		r := single(allow, api.WashKind{Power: to(30, 40)})
		surely, possibly, e := wash.May(r, events(load(0), clean(0)), 0)
		if [2]bool{surely, possibly} != want || e != api.OK {
			t.Errorf("at most %d: %t, %t, error %d", allow, surely, possibly, e)
		}
	}
}

// P5.3: at least Apart cargoes after the last time, of which one that is loaded twice counts twice, and the cargo itself counts as well.
func TestApart(t *testing.T) {
	for apart := range 11 {
		r := api.WashRules{Levels: []int{0, 0}, Allow: square(2, 0), Apart: [][]int{{0, apart}, {0, 0}}, Kinds: []api.WashKind{{Power: at(9)}}}
		own := r
		own.Apart = [][]int{{apart, 0}, {0, 0}}
		for after := range 14 {
			l := append(events(load(0), load(1), load(0)), slices.Repeat(events(load(1), clean(0)), after)...)
			surely, possibly, e := wash.May(r, l, 1)
			again, _, f := wash.May(own, l, 0)
			if want := after >= apart; surely != want || possibly != want || again != want || e != api.OK || f != api.OK {
				t.Errorf("%d after it, of %d: %t, %t and %t, errors %d and %d", after, apart, surely, possibly, again, e, f)
			}
		}
		if surely, _, e := wash.May(own, events(load(1), clean(0)), 0); !surely || e != api.OK {
			t.Errorf("%d apart of itself, which was never carried: %t, error %d", apart, surely, e)
		}
	}
}

// P5.4 and example 3: the breaches in a history, in the order of the events and then of the cargoes.
func TestAudit(t *testing.T) {
	for name, x := range map[string]struct {
		l    []api.TankEvent
		want []api.WashBreach
	}{
		"an empty history":      {nil, nil},
		"L0":                    {events(load(0)), nil},
		"L0 W0 L2 W1":           {events(load(0), clean(0), load(2), clean(1)), []api.WashBreach{{Event: 2, Cargo: 0, Sure: true}}},
		"L0 W0 W0 L2, possibly": {events(load(0), clean(0), clean(0), load(2)), []api.WashBreach{{Event: 3, Cargo: 0}}},
		"L0 W1 L1, too close":   {events(load(0), clean(1), load(1)), []api.WashBreach{{Event: 2, Cargo: 0, Sure: true}}},
		"L0 L1 L2, two cargoes": {events(load(0), load(1), load(2)), []api.WashBreach{
			{Event: 1, Cargo: 0, Sure: true}, {Event: 2, Cargo: 0, Sure: true}, {Event: 2, Cargo: 1, Sure: true},
		}},
		"L1 W0 L2, two events": {events(load(1), clean(0), load(2), clean(0), load(2)), []api.WashBreach{{Event: 2, Cargo: 1, Sure: true}}},
		"cleanings only":       {events(clean(0), clean(1)), nil},
	} {
		got, e := wash.Audit(example(), x.l)
		if !slices.Equal(got, x.want) || e != api.OK {
			t.Errorf("%s: %v, error %d", name, got, e)
		}
	}
	// Of itself 0 may be left at most 50.
	r := changed(func(r *api.WashRules) { r.Allow[0][0] = 50 })
	if got, e := wash.Audit(r, events(load(0), clean(0), load(0))); !slices.Equal(got, []api.WashBreach{{Event: 2, Cargo: 0, Sure: true}}) || e != api.OK {
		t.Errorf("of itself: %v, error %d", got, e)
	}
}

// P5.5 and example 3: what is in the washing water.
func TestSlops(t *testing.T) {
	for name, x := range map[string]struct {
		l    []api.TankEvent
		want [][]int
	}{
		"no cleanings":         {events(load(0), load(1)), nil},
		"a clean tank":         {events(clean(1)), [][]int{nil}},
		"L0 W0 L2 W1":          {events(load(0), clean(0), load(2), clean(1)), [][]int{{0}, {0, 2}}},
		"L2 L1 L0 W0":          {events(load(2), load(1), load(0), clean(0)), [][]int{{0, 1, 2}}},
		"L1 W0 W0 W0, no more": {events(load(1), clean(0), clean(0), clean(0)), [][]int{{1}, {1}, nil}},
		"L2 W0 W0, possibly":   {events(load(2), clean(0), clean(0), clean(0)), [][]int{{2}, {2}, nil}},
		"L2 W1 L2 W0":          {events(load(2), clean(1), clean(0), load(2), clean(0)), [][]int{{2}, nil, {2}}},
	} {
		got, e := wash.Slops(example(), x.l)
		if !slices.EqualFunc(got, x.want, slices.Equal) || e != api.OK {
			t.Errorf("%s: %v, error %d", name, got, e)
		}
	}
	// What leaves nothing is not in the water.
	r := changed(func(r *api.WashRules) { r.Levels[1] = 0 })
	if got, e := wash.Slops(r, events(load(2), load(1), clean(1))); !slices.EqualFunc(got, [][]int{{2}}, slices.Equal) || e != api.OK {
		t.Errorf("a cargo without residue: %v, error %d", got, e)
	}
}

// P5.6 and example 3: the sums of all cleanings.
func TestBill(t *testing.T) {
	for name, x := range map[string]struct {
		r    api.WashRules
		l    []api.TankEvent
		want [3]int
	}{
		"an empty history": {example(), nil, [3]int{}},
		"loads only":       {example(), events(load(0), load(1)), [3]int{}},
		"L0 W0 L2 W1":      {example(), events(load(0), clean(0), load(2), clean(1)), [3]int{300, 25, 110000}},
		"W0 W0":            {example(), events(clean(0), clean(0)), [3]int{120, 10, 40000}},
		"100 great ones":   {great(), slices.Repeat(events(clean(3)), 100), [3]int{1000000, 1000000, 10000000000}},
	} {
		minutes, water, cost, e := wash.Bill(x.r, x.l)
		if [3]int{minutes, water, cost} != x.want || e != api.OK {
			t.Errorf("%s: %d minutes, %d cubic meters, %d cents, error %d", name, minutes, water, cost, e)
		}
	}
}

// truths yields the vats before each event of a history, and after all of them, for all truths.
func truths(r api.WashRules, l []api.TankEvent, yield func([]vat)) {
	var follow func(so []vat)
	follow = func(so []vat) {
		n := len(so) - 1
		if n == len(l) {
			yield(so)
			return
		}
		b := reduction(r, l[n])
		for number := b.Low; number <= b.High; number++ {
			follow(append(slices.Clip(so), so[n].follow(r, l[n], number)))
		}
	}
	follow([]vat{newVat(r)})
}

// seen is what some truths of a history have in common, and what is so in some of them.
type seen struct {
	residues         []api.Bounds
	surely, possibly []bool                  // whether each cargo is acceptable
	breaches         map[api.WashBreach]bool // which are in all truths, or in some
	slops            [][]int
}

// see returns what the truths of a history show.
func see(r api.WashRules, l []api.TankEvent) seen {
	n := len(r.Levels)
	s := seen{
		residues: slices.Repeat([]api.Bounds{to(1<<40, -1)}, n),
		surely:   slices.Repeat([]bool{true}, n), possibly: make([]bool, n),
		breaches: map[api.WashBreach]bool{},
	}
	times, all := map[[2]int]int{}, 0
	water := make([]map[int]bool, len(l))
	truths(r, l, func(vats []vat) {
		all++
		last := vats[len(l)]
		for c := range n {
			s.residues[c] = to(min(s.residues[c].Low, last.residues[c]), max(s.residues[c].High, last.residues[c]))
			s.surely[c] = s.surely[c] && last.accepts(r, c)
			s.possibly[c] = s.possibly[c] || last.accepts(r, c)
		}
		for i, e := range l {
			for c := range n {
				if e.Kind == api.TankLoad && vats[i].breach(r, c, e.Number) {
					times[[2]int{i, c}]++
				}
				if e.Kind == api.TankWash && vats[i].residues[c] > 0 {
					if water[i] == nil {
						water[i] = map[int]bool{}
					}
					water[i][c] = true
				}
			}
		}
	})
	for key, n := range times {
		s.breaches[api.WashBreach{Event: key[0], Cargo: key[1], Sure: n == all}] = true
	}
	for i, e := range l {
		if e.Kind == api.TankWash {
			var cargoes []int
			for c := range n {
				if water[i][c] {
					cargoes = append(cargoes, c)
				}
			}
			s.slops = append(s.slops, cargoes)
		}
	}
	return s
}

// P5.2 to P5.5, and P5.11: the results are those of all truths together. The bounds contain each truth, and both ends are reached.
func TestAllTruths(t *testing.T) {
	d, possible, unsure := newDice(1), 0, 0
	for range 10000 {
		r := d.rules(4, 3)
		l := d.history(r, 6)
		want := see(r, l)
		got, e := wash.Residues(r, l)
		if !slices.Equal(got, want.residues) || e != api.OK {
			t.Fatalf("%v, %v: residues %v, not %v, error %d", r, l, got, want.residues, e)
		}
		for c := range r.Levels {
			surely, possibly, e := wash.May(r, l, c)
			if surely != want.surely[c] || possibly != want.possibly[c] || e != api.OK {
				t.Fatalf("%v, %v, cargo %d: %t, %t, error %d", r, l, c, surely, possibly, e)
			}
			if possibly && !surely {
				possible++
			}
		}
		breaches, e := wash.Audit(r, l)
		found := map[api.WashBreach]bool{}
		for _, b := range breaches {
			found[b] = true
			if !b.Sure {
				unsure++
			}
		}
		if !reflect.DeepEqual(found, want.breaches) || len(found) != len(breaches) || e != api.OK {
			t.Fatalf("%v, %v: breaches %v, not %v, error %d", r, l, breaches, want.breaches, e)
		}
		if !slices.IsSortedFunc(breaches, func(a, b api.WashBreach) int { return 10*(a.Event-b.Event) + a.Cargo - b.Cargo }) {
			t.Fatalf("breaches out of order: %v", breaches)
		}
		slops, e := wash.Slops(r, l)
		if !slices.EqualFunc(slops, want.slops, slices.Equal) || e != api.OK {
			t.Fatalf("%v, %v: slops %v, not %v, error %d", r, l, slops, want.slops, e)
		}
	}
	if possible < 200 || unsure < 200 {
		t.Errorf("only %d cargoes that are possibly acceptable, and %d breaches that are not sure", possible, unsure)
	}
}

// P5.11: in long histories all Lows are reached by the greatest numbers, all Highs by the least ones, and other numbers lie between.
func TestEndsOfBounds(t *testing.T) {
	d := newDice(2)
	for range 500 {
		r := d.rules(8, 4)
		l := d.history(r, 100)
		got, e := wash.Residues(r, l)
		low, high, any := newVat(r), newVat(r), newVat(r)
		for _, x := range l {
			b := reduction(r, x)
			low, high, any = low.follow(r, x, b.High), high.follow(r, x, b.Low), any.follow(r, x, d.from(b.Low, b.High))
		}
		for c, b := range got {
			if b != to(low.residues[c], high.residues[c]) || any.residues[c] < b.Low || any.residues[c] > b.High || e != api.OK {
				t.Fatalf("%v, %v, cargo %d: %v, error %d", r, l, c, b, e)
			}
		}
	}
}
