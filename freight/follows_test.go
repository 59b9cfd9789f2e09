package freight_test

import (
	"slices"
	"testing"

	"thalweg/api"
	"thalweg/freight"
)

// broken returns messages about some charters, of which a few may be wrong, missing or contradicting.
func (d dice) broken(charters int) []api.FreightMessage {
	var l []api.FreightMessage
	for charter := range charters {
		l = append(l, d.work(charter)...)
	}
	if d.from(0, 2) == 0 {
		l = append(l, api.FreightMessage{Charter: d.from(0, 3), Number: d.from(0, 40), Kind: api.FactKind(d.from(1, 7)), Minute: d.from(0, 99)})
	}
	if d.from(0, 4) == 0 {
		l = slices.Delete(l, 0, 3)
	}
	return l
}

// P7.8: Facts, Laytime, Bill and Balance return the same, and the same errors, for messages in any other order, and with any of them twice.
func TestAnyOrderOfMessages(t *testing.T) {
	d, errors := newDice(77), map[api.Errno]int{}
	for range 500 {
		c, free, l := d.charter(), d.free(3), d.broken(1)
		charters, books := []api.Charter{d.charter(), d.charter()}, d.broken(2)
		facts, e := freight.Facts(l)
		lay, f := freight.Laytime(c, free, l)
		bill, g := freight.Bill(c, free, l)
		balances, h := freight.Balance(charters, free, books)
		errors[g]++
		errors[h]++
		for range 5 {
			other, others := d.shuffled(l), d.shuffled(books)
			facts2, e2 := freight.Facts(other)
			lay2, f2 := freight.Laytime(c, free, other)
			bill2, g2 := freight.Bill(c, free, other)
			balances2, h2 := freight.Balance(charters, free, others)
			if !slices.Equal(facts, facts2) || lay != lay2 || bill != bill2 || e != e2 || f != f2 || g != g2 {
				t.Fatalf("%v: not the same in another order: %v", l, other)
			}
			if !slices.Equal(balances, balances2) || h != h2 {
				t.Fatalf("%v: not the same in another order: %v", books, others)
			}
		}
	}
	for _, e := range []api.Errno{api.OK, api.ErrTwice, api.ErrForm, api.ErrNone, api.ErrState} {
		if errors[e] < 5 {
			t.Errorf("error %d in %d cases", e, errors[e])
		}
	}
}

// P7.8: Match returns the same for bids and asks in another order.
func TestAnyOrderOfOrders(t *testing.T) {
	d := newDice(78)
	for range 500 {
		bids, asks := d.orders(30, 20, 9, 2), d.orders(30, 20, 9, 2)
		price, trades, e := freight.Match(bids, asks)
		for range 5 {
			price2, trades2, f := freight.Match(shuffled(d, bids), shuffled(d, asks))
			if price != price2 || !slices.Equal(trades, trades2) || e != f {
				t.Fatalf("%v, %v: not the same in another order", bids, asks)
			}
		}
	}
}

// P7.9: balances have the sum 0, and are the sums of those of the charters, each one settled alone.
func TestSumsOfBalances(t *testing.T) {
	d := newDice(79)
	for range 300 {
		var charters []api.Charter
		var l []api.FreightMessage
		number := d.from(0, 4)
		for i := range number {
			charters = append(charters, d.charter())
			if d.from(0, 3) > 0 {
				l = append(l, d.work(i)...)
			}
		}
		free, want, sum := d.free(3), make([]int, api.MaxTraders), 0
		for i, c := range charters {
			own := slices.DeleteFunc(slices.Clone(l), func(m api.FreightMessage) bool { return m.Charter != i })
			alone, e := freight.Balance([]api.Charter{c}, free, of(0, own))
			if e != api.OK {
				t.Fatal(own, e)
			}
			for party := range want {
				want[party] += alone[party]
			}
		}
		got, e := freight.Balance(charters, free, l)
		for _, money := range got {
			sum += money
		}
		if !slices.Equal(got, want) || sum != 0 || e != api.OK {
			t.Fatalf("%v: %v with the sum %d, not %v; error %d", charters, got, sum, want, e)
		}
	}
}

// P7.10: nobody buys for more, or sells for less, than their price, or trades more than their tons; no price, whether of an order or not, has a greater turnover.
func TestFairTrades(t *testing.T) {
	d := newDice(80)
	for range 500 {
		bids, asks := d.orders(30, 1000, 60, 5), d.orders(30, 1000, 60, 5)
		price, trades, e := freight.Match(bids, asks)
		bought, sold, turnover := map[int]int{}, map[int]int{}, 0
		for _, trade := range trades {
			bought[trade.Buyer] += trade.Tons
			sold[trade.Seller] += trade.Tons
			turnover += trade.Tons
			if trade.Tons <= 0 {
				t.Fatalf("a trade of %d tons", trade.Tons)
			}
		}
		for _, b := range bids {
			if bought[b.Party] > b.Tons || bought[b.Party] > 0 && price > b.Price {
				t.Fatalf("%v buys %d for %d", b, bought[b.Party], price)
			}
			delete(bought, b.Party)
		}
		for _, b := range asks {
			if sold[b.Party] > b.Tons || sold[b.Party] > 0 && price < b.Price {
				t.Fatalf("%v sells %d for %d", b, sold[b.Party], price)
			}
			delete(sold, b.Party)
		}
		if len(bought)+len(sold) > 0 {
			t.Fatalf("parties trade that have no orders: %v, %v", bought, sold)
		}
		for other := range 62 {
			if most := min(demand(bids, other), supply(asks, other)); most > turnover || e == api.OK && other == price && most != turnover {
				t.Fatalf("%v, %v: turnover %d at %d, %d at %d; error %d", bids, asks, turnover, price, most, other, e)
			}
		}
	}
}

// expectCount fails the test unless the counts of laytime fit together.
func expectCount(t *testing.T, c api.Charter, n api.LayCount) {
	t.Helper()
	if n.Used < 0 || n.Used > c.Laytime || n.Over == 0 && n.Used+n.Saved != c.Laytime || n.Over > 0 && (n.Used != c.Laytime || n.Saved != 0) {
		t.Fatalf("%v of %d minutes", n, c.Laytime)
	}
}

// later returns messages whose work ends some minutes later.
func later(l []api.FreightMessage, minutes int) []api.FreightMessage {
	l = slices.Clone(l)
	for i := range l {
		if l[i].Kind == api.FactEnd && counts(l[i], l) {
			l[i].Minute += minutes
		}
	}
	return l
}

// P7.11: used is at most the laytime, with what is saved it is the laytime; if work ends later, neither used nor over is less.
func TestWorkEndsLater(t *testing.T) {
	d := newDice(81)
	for range 500 {
		c, free, l := d.charter(), d.free(3), d.work(0)
		last, e := freight.Laytime(c, free, l)
		for range 5 {
			expectCount(t, c, last)
			l = later(l, d.from(0, 20))
			n, f := freight.Laytime(c, free, l)
			if e != api.OK || f != api.OK || n.Begin != last.Begin || n.Used < last.Used || n.Over < last.Over {
				t.Fatalf("%v, %v: %v, %v; errors %d, %d", c, l, last, n, e, f)
			}
			last = n
		}
	}
}

// P7.11: a holiday more does not increase used and over; one that begins when laytime is over changes nothing.
func TestOneHolidayMore(t *testing.T) {
	d, over := newDice(82), 0
	for range 1000 {
		c, free, l := d.charter(), d.free(3), d.work(0)
		last, e := freight.Laytime(c, free, l)
		more := d.free(1)
		n, f := freight.Laytime(c, slices.Concat(more, free), l)
		expectCount(t, c, n)
		if e != api.OK || f != api.OK || n.Used+n.Over > last.Used+last.Over {
			t.Fatalf("%v, %v, %v more: %v, %v; errors %d, %d", c, l, more, last, n, e, f)
		}
		facts, _ := freight.Facts(l)
		begin := minuteOf(api.FactEnd, facts) - last.Over
		if last.Over > 0 {
			over++
		}
		late := api.FreeTime{From: begin + d.from(0, 5), To: begin + 1000}
		if n, f := freight.Laytime(c, append(free, late), l); last.Over > 0 && n != last || f != api.OK {
			t.Fatalf("%v, %v, %v more: %v, %v; error %d", c, l, late, last, n, f)
		}
	}
	if over < 100 {
		t.Errorf("%d cases with minutes over", over)
	}
}

// P7.11: a stop more does not increase used and over; one that begins when laytime is over changes nothing.
func TestOneStopMore(t *testing.T) {
	d := newDice(83)
	for range 1000 {
		c, free := d.charter(), d.free(3)
		last := d.from(100, 200)
		l := []api.FreightMessage{message(0, notice, d.from(0, 20), 0), message(900, end, last, 0)}
		before, e := freight.Laytime(c, free, l)
		from := d.from(20, last)
		n, f := freight.Laytime(c, free, append(l, message(1, stop, from, 0), message(2, resume, d.from(from, last), 0)))
		expectCount(t, c, n)
		if e != api.OK || f != api.OK || n.Used+n.Over > before.Used+before.Over || from >= last-before.Over && n != before {
			t.Fatalf("%v, %v, a stop in %d: %v, %v; errors %d, %d", c, l, from, before, n, e, f)
		}
	}
}

// P7.12: what Best returns can be carried for this gain; with an offer more it gains no less.
func TestOneOfferMore(t *testing.T) {
	d := newDice(84)
	for range 500 {
		l := d.offers(11, 9, 30, 50)
		place, minute, slow, cost := d.from(0, 9), d.from(0, 5), d.from(0, 2), d.from(0, 4)
		list, gain, e := freight.Best(l, place, minute, slow, cost)
		if got, possible := carry(l, list, place, minute, slow, cost); got != gain || !possible || e != api.OK {
			t.Fatalf("%v, %v: %d, not %d; error %d", l, list, got, gain, e)
		}
		l = append(l, offer(d.from(0, 9), d.from(0, 9), 15, d.from(15, 20), d.from(0, 50)))
		if _, more, e := freight.Best(l, place, minute, slow, cost); more < gain || e != api.OK {
			t.Fatalf("%v: %d, without the last one %d; error %d", l, more, gain, e)
		}
	}
}
