package freight_test

import (
	"math"
	"reflect"
	"slices"
	"testing"
	"time"

	"thalweg/api"
	"thalweg/freight"
)

// R4: no argument is changed, also if its elements are not in order.
func TestArgumentsStay(t *testing.T) {
	reverse := func(l []api.FreightMessage) []api.FreightMessage {
		slices.Reverse(l)
		return l
	}
	buy, sell, c := append(asks(), bids()[1]), append(asks(), order(7, 5, 100, 0)), charter()
	free, l, late := append(holiday(), api.FreeTime{From: 3, To: 9}), reverse(messages()), offers()
	slices.Reverse(late)
	charters := []api.Charter{charter(), c}
	freight.Match(buy, sell)
	freight.Facts(l)
	freight.CheckCharter(c)
	freight.Laytime(c, free, l)
	freight.Bill(c, free, l)
	freight.Balance(charters, free, l)
	freight.Best(late, 0, 0, 1, 1)
	if !slices.Equal(buy, append(asks(), bids()[1])) || !slices.Equal(sell, append(asks(), order(7, 5, 100, 0))) {
		t.Errorf("bids or asks were changed: %v, %v", buy, sell)
	}
	if !reflect.DeepEqual(charters, []api.Charter{charter(), charter()}) || !slices.Equal(l, reverse(messages())) {
		t.Errorf("a charter or messages were changed: %v, %v", charters, l)
	}
	slices.Reverse(late)
	if !slices.Equal(free, append(holiday(), api.FreeTime{From: 3, To: 9})) || !slices.Equal(late, offers()) {
		t.Errorf("free times or offers were changed: %v, %v", free, late)
	}
}

// R4: what lies behind the end of a list is not changed, either.
func TestRestsStay(t *testing.T) {
	l, free, buy := append(messages(), message(77, end, 7, 7)), append(holiday(), holiday()...), append(bids(), order(9, 9, 9, 9))
	freight.Facts(l[:6])
	freight.Laytime(charter(), free[:1], l[:6])
	freight.Bill(charter(), free[:1], l[:6])
	freight.Balance([]api.Charter{charter()}, free[:1], l[:6])
	freight.Match(buy[:2], asks())
	if l[6] != message(77, end, 7, 7) || free[1] != holiday()[0] || buy[2] != order(9, 9, 9, 9) {
		t.Errorf("%v, %v, %v", l[6], free[1], buy[2])
	}
}

// A result is new memory: to write into it changes neither an argument nor a later call.
func TestResultsAreNew(t *testing.T) {
	l, want := messages(), []int{0, 1}
	for range 2 {
		facts, _ := freight.Facts(l[3:5])
		balances, _ := freight.Balance([]api.Charter{charter()}, nil, l)
		_, trades, _ := freight.Match(bids(), asks())
		list, _, _ := freight.Best(offers(), 0, 0, 5, 100)
		if !slices.Equal(facts, messages()[3:5]) || balances[50] != 0 || trades[0].Tons != 800 || !slices.Equal(list, want) {
			t.Error(facts, balances, trades, list)
		}
		facts[0], balances[50], trades[0], list[1] = message(9, stop, 9, 9), 7, api.FreightTrade{}, 7
	}
	if !slices.Equal(l, messages()) {
		t.Errorf("messages were changed: %v", l)
	}
}

// R3: nil and empty lists are the same.
func TestNilIsEmpty(t *testing.T) {
	for _, l := range [][]api.FreightMessage{nil, {}} {
		for _, free := range [][]api.FreeTime{nil, {}} {
			for _, charters := range [][]api.Charter{nil, {}, {charter()}} {
				if got, e := freight.Balance(charters, free, l); !slices.Equal(got, make([]int, 100)) || e != api.OK {
					t.Error(got, e)
				}
			}
			expect(t, "Laytime", laytime(charter(), free, l), api.ErrNone)
			expect(t, "Bill", bill(charter(), free, l), api.ErrNone)
			if n, e := freight.Laytime(charter(), free, messages()); n.Over != 1140 || e != api.OK {
				t.Error(n, e)
			}
		}
		if got, e := freight.Facts(l); len(got) != 0 || e != api.OK {
			t.Error(got, e)
		}
	}
	for _, orders := range [][]api.FreightBid{nil, {}} {
		expect(t, "Match", match(orders, asks()), api.ErrNone)
		expect(t, "Match", match(bids(), orders), api.ErrNone)
	}
	for _, l := range [][]api.FreightOffer{nil, {}} {
		if list, gain, e := freight.Best(l, 1, 1, 1, 1); len(list) != 0 || gain != 0 || e != api.OK {
			t.Error(list, gain, e)
		}
	}
}

// P7.1, P7.5, P7.6 and P7.7: the greatest numbers that are allowed have exact results.
func TestGreatestNumbers(t *testing.T) {
	c := api.Charter{
		Shipper: 1, Carrier: 2, Broker: 3, Rate: 1000000, Tons: 1000000, Demurrage: 100000000, Despatch: 100000000,
		Commission: 100, Water: []api.LowWater{{Below: 10000, Percent: 1000}},
	}
	l := []api.FreightMessage{message(0, notice, 0, 0), message(1, end, 100000, 0), message(2, api.FactTons, 100000, 1000000), message(3, api.FactLevel, 0, 9999)}
	want := api.FreightBill{Freight: 1e12, Bonus: 1e13, Demurrage: 6944444444, Commission: 11e12, Total: 11006944444444}
	if b, e := freight.Bill(c, nil, l); b != want || e != api.OK {
		t.Errorf("%v, error %d", b, e)
	}
	c.Laytime, c.Notice = 100000, 100000
	want.Demurrage, want.Despatch, want.Total = 0, 6944444444, 11e12-6944444444
	if b, e := freight.Bill(c, nil, l); b != want || e != api.OK {
		t.Errorf("%v, error %d", b, e)
	}
	var books []api.FreightMessage
	for i := range 10 {
		books = append(books, of(i, l)...)
	}
	if got, e := freight.Balance(slices.Repeat([]api.Charter{c}, 10), nil, books); got[1] != -10*want.Total || got[3] != 110e12 || e != api.OK {
		t.Errorf("%v, error %d", got, e)
	}
	dear := []api.FreightOffer{offer(100000, 0, 50000, 60000, 1000000000), offer(0, 100000, 100000, 100000, 1000000000)}
	if list, gain, e := freight.Best(dear, 50000, 0, 1, 19999); !slices.Equal(list, []int{0, 1}) || gain != 1000050000 || e != api.OK {
		t.Errorf("%v for %d, error %d", list, gain, e)
	}
	expect(t, "moves that cost most", best(dear, 0, 0, 0, 100000), api.OK)
}

// P1: no function panics for any values, and each of them ends.
func TestAnyValues(t *testing.T) {
	values := []int{math.MinInt, -1, 0, 1, 2, 3, 50, 99, 100, 1000, 100000, 1000000, math.MaxInt}
	d := newDice(85)
	any := func() int { return values[d.Intn(len(values))] }
	for range 3000 {
		orders, other := []api.FreightBid{order(any(), any(), any(), any())}, []api.FreightBid{order(any(), any(), any(), any())}
		c := api.Charter{
			Shipper: any(), Carrier: any(), Broker: any(), Rate: any(), Tons: any(), Laytime: any(), Notice: any(),
			Demurrage: any(), Despatch: any(), Commission: any(), Water: []api.LowWater{{Below: any(), Percent: any()}},
		}
		free := []api.FreeTime{{From: any(), To: any()}}
		l := append(messages(), api.FreightMessage{Charter: any(), Number: any(), Revision: any(), Kind: api.FactKind(any()), Minute: any(), Value: any()})
		late := []api.FreightOffer{offer(any(), any(), any(), any(), any())}
		for _, got := range []outcome{
			match(orders, other), facts(l), laytime(c, free, l), bill(c, free, l), balance([]api.Charter{c}, free, l),
			laytime(charter(), free, l), bill(charter(), free, l), balance([]api.Charter{charter()}, free, l),
			best(late, any(), any(), any(), any()), best(late, 0, 0, 0, 0),
		} {
			if got.e != api.OK && !got.zero {
				t.Fatalf("error %d, and a result", got.e)
			}
		}
	}
}

// P1: the longest lists need no long time.
func TestLongListsAreFast(t *testing.T) {
	d, begin := newDice(86), time.Now()
	free := slices.Repeat([]api.FreeTime{{From: 1, To: 1}, {From: 0, To: 50000}}, 15)
	for range 200 {
		var late []api.FreightOffer
		for range 12 {
			at := d.from(0, 100000)
			late = append(late, offer(d.from(0, 100000), d.from(0, 100000), at, at, d.from(0, 1000000000)))
		}
		var l []api.FreightMessage
		for i := range 100 {
			l = append(l, message(i, stop+api.FactKind(i%2), 1000*i, 0))
		}
		l[0].Kind, l[1].Kind, l[98].Kind, l[99].Kind = notice, api.FactLevel, api.FactTons, end
		l = shuffled(d, l)
		c := charter()
		c.Laytime, c.Notice = 100000, 0
		expect(t, "Bill", bill(c, free, l), api.OK)
		expect(t, "Balance", balance(slices.Repeat([]api.Charter{c}, 10), free, l), api.OK)
		expect(t, "Best", best(late, 0, 0, 0, 0), api.OK)
		buy, sell := d.orders(30, 1000000, 1000000, 100000), d.orders(30, 1000000, 1000000, 100000)
		freight.Match(buy, sell)
	}
	if spent := time.Since(begin); spent > 10*time.Second {
		t.Errorf("200 rounds took %v", spent)
	}
}
