package freight_test

import (
	"slices"
	"testing"

	"thalweg/api"
	"thalweg/freight"
)

// nearest returns the integer nearest to a / b, the greater one of two: the first one that is not farther away than the next one.
func nearest(a, b int) int {
	n := a / b
	for 2*(a-n*b) >= b {
		n++
	}
	return n
}

// billOf returns what a charter costs, by facts in their order.
func billOf(c api.Charter, free []api.FreeTime, facts []api.FreightMessage) api.FreightBill {
	valueOf := func(kind api.FactKind) int {
		return facts[slices.IndexFunc(facts, func(f api.FreightMessage) bool { return f.Kind == kind })].Value
	}
	n, b := minuteByMinute(c, free, facts), api.FreightBill{Freight: c.Rate * c.Tons}
	if valueOf(api.FactTons) > c.Tons {
		b.Freight = c.Rate * valueOf(api.FactTons)
	}
	level := valueOf(api.FactLevel)
	if i := slices.IndexFunc(c.Water, func(w api.LowWater) bool { return level < w.Below }); i >= 0 {
		b.Bonus = nearest(b.Freight*c.Water[i].Percent, 100)
	}
	b.Demurrage, b.Despatch = nearest(n.Over*c.Demurrage, 1440), nearest(n.Saved*c.Despatch, 1440)
	b.Commission = nearest((b.Freight+b.Bonus)*c.Commission, 100)
	b.Total = b.Freight + b.Bonus + b.Demurrage - b.Despatch
	return b
}

// P7.5: the third example.
func TestExampleOfBill(t *testing.T) {
	b, e := freight.Bill(charter(), holiday(), messages())
	want := api.FreightBill{Freight: 1020000, Bonus: 204000, Demurrage: 70000, Commission: 61200, Total: 1294000}
	if b != want || e != api.OK {
		t.Error(b, e)
	}
}

// P7.5: freight is paid for what was carried, and at least for the tons of the charter.
func TestFreight(t *testing.T) {
	for tons, want := range map[int]int{0: 1020000, 1000: 1020000, 1199: 1020000, 1200: 1020000, 1201: 1020850, 1000000: 850000000} {
		l := messages()
		l[4].Value = tons
		if b, e := freight.Bill(charter(), nil, l); b.Freight != want || e != api.OK {
			t.Errorf("%d tons: %v, error %d", tons, b, e)
		}
	}
}

// P7.5: the bonus has the percent of the first row that is above the level, or none.
func TestBonus(t *testing.T) {
	for level, want := range map[int]int{0: 408000, 149: 408000, 150: 204000, 199: 204000, 200: 0, 1000000: 0} {
		l := messages()
		l[5].Value = level
		b, e := freight.Bill(charter(), nil, l)
		if b.Bonus != want || b.Commission != (1020000+want)/20 || e != api.OK {
			t.Errorf("level %d: %v, error %d", level, b, e)
		}
	}
	dry := charter()
	dry.Water = nil
	for _, l := range [][]api.FreightMessage{messages(), without(messages(), api.FactLevel)} {
		if b, e := freight.Bill(dry, nil, l); b.Bonus != 0 || b.Commission != 51000 || e != api.OK {
			t.Errorf("%v, error %d", b, e)
		}
	}
	dry.Water = []api.LowWater{{Below: 0, Percent: 1000}}
	if b, e := freight.Bill(dry, nil, []api.FreightMessage{message(0, notice, 0, 0), message(1, end, 0, 0), message(2, api.FactTons, 0, 9), message(3, api.FactLevel, 0, 0)}); b.Bonus != 0 || e != api.OK {
		t.Errorf("no level is below 0: %v, error %d", b, e)
	}
}

// P7.5: what is halfway between two cents is rounded up, in each part of the bill.
func TestRounding(t *testing.T) {
	work := func(minutes, tons int) []api.FreightMessage {
		return []api.FreightMessage{message(0, notice, 0, 0), message(1, end, minutes, 0), message(2, api.FactTons, 0, tons), message(3, api.FactLevel, 0, 0)}
	}
	for tons, want := range map[int]int{0: 0, 1: 0, 49: 0, 50: 1, 51: 1, 149: 1, 150: 2} {
		c := api.Charter{Rate: 1, Commission: 1}
		if b, e := freight.Bill(c, nil, work(0, tons)); b.Commission != want || b.Freight != tons || b.Total != tons || e != api.OK {
			t.Errorf("commission of %d: %v, error %d", tons, b, e)
		}
		c = api.Charter{Rate: 1, Water: []api.LowWater{{Below: 9, Percent: 1}}}
		if b, e := freight.Bill(c, nil, work(0, tons)); b.Bonus != want || b.Total != tons+want || e != api.OK {
			t.Errorf("bonus of %d: %v, error %d", tons, b, e)
		}
	}
	for minutes, want := range map[int]int{0: 0, 1: 0, 719: 0, 720: 1, 721: 1, 2159: 1, 2160: 2} {
		if b, e := freight.Bill(api.Charter{Demurrage: 1}, nil, work(minutes, 0)); b != (api.FreightBill{Demurrage: want, Total: want}) || e != api.OK {
			t.Errorf("%d minutes over: %v, error %d", minutes, b, e)
		}
		if b, e := freight.Bill(api.Charter{Despatch: 1, Laytime: minutes}, nil, work(0, 0)); b != (api.FreightBill{Despatch: want, Total: -want}) || e != api.OK {
			t.Errorf("%d minutes saved: %v, error %d", minutes, b, e)
		}
	}
}

// P7.5: Bill agrees with a count minute by minute.
func TestBill(t *testing.T) {
	d := newDice(75)
	for range 3000 {
		c, free, l := d.charter(), d.free(d.from(0, 4)), d.work(0)
		facts, _ := freight.Facts(l)
		want := billOf(c, free, facts)
		if b, e := freight.Bill(c, free, l); b != want || e != api.OK {
			t.Fatalf("%v, %v, %v: %v, not %v; error %d", c, free, facts, b, want, e)
		}
	}
}

// P7.6: the shipper pays the total to the carrier, who pays the commission to the broker.
func TestExampleOfBalance(t *testing.T) {
	want := make([]int, api.MaxTraders)
	want[1], want[2], want[3] = -1294000, 1294000-61200, 61200
	if got, e := freight.Balance([]api.Charter{charter()}, holiday(), messages()); !slices.Equal(got, want) || e != api.OK {
		t.Error(got, e)
	}
}

// P7.6: a charter without messages is not settled; the messages of the others are told apart.
func TestWhoIsSettled(t *testing.T) {
	second := charter()
	second.Shipper, second.Carrier, second.Broker = 2, 99, 0
	charters := []api.Charter{charter(), charter(), second, charter()}
	for name, x := range map[string]struct {
		l       []api.FreightMessage
		settled []int
	}{
		"none":          {nil, nil},
		"the third one": {of(2, messages()), []int{2}},
		"the last one":  {of(3, messages()), []int{3}},
		"two of them":   {append(of(2, messages()), of(1, messages())...), []int{1, 2}},
	} {
		want := make([]int, api.MaxTraders)
		for _, i := range x.settled {
			c := charters[i]
			want[c.Shipper] -= 1294000
			want[c.Carrier] += 1294000 - 61200
			want[c.Broker] += 61200
		}
		if got, e := freight.Balance(charters, holiday(), x.l); !slices.Equal(got, want) || e != api.OK {
			t.Errorf("%s: %v, error %d", name, got, e)
		}
	}
	if got, e := freight.Balance(nil, nil, nil); !slices.Equal(got, make([]int, 100)) || e != api.OK {
		t.Errorf("no charters: %v, error %d", got, e)
	}
}

// P7.6: one party can have several parts in a charter.
func TestSameParties(t *testing.T) {
	for name, x := range map[string]struct{ shipper, carrier, broker, zero, one int }{
		"all the same":        {0, 0, 0, 0, 0},
		"shipper and carrier": {0, 0, 1, -61200, 61200},
		"carrier and broker":  {0, 1, 1, -1294000, 1294000},
		"shipper and broker":  {0, 1, 0, 61200 - 1294000, 1294000 - 61200},
	} {
		c := charter()
		c.Shipper, c.Carrier, c.Broker = x.shipper, x.carrier, x.broker
		got, e := freight.Balance([]api.Charter{c}, holiday(), messages())
		if len(got) != 100 || got[0] != x.zero || got[1] != x.one || e != api.OK {
			t.Errorf("%s: %v, error %d", name, got, e)
		}
	}
}
