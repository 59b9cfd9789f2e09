package freight_test

import (
	"slices"
	"testing"

	"thalweg/api"
	"thalweg/freight"
)

// demand and supply return how many tons are wanted, and offered, at a price.
func demand(bids []api.FreightBid, price int) int {
	sum := 0
	for _, b := range bids {
		if b.Price >= price {
			sum += b.Tons
		}
	}
	return sum
}

func supply(asks []api.FreightBid, price int) int {
	sum := 0
	for _, b := range asks {
		if b.Price <= price {
			sum += b.Tons
		}
	}
	return sum
}

// clearingPrice returns the price by the words of the document, or -1 if nothing is traded: from high prices to low ones, so that the least one is found last.
func clearingPrice(bids, asks []api.FreightBid, high int) int {
	named := map[int]bool{}
	for _, b := range slices.Concat(bids, asks) {
		named[b.Price] = true
	}
	best, most, apart := -1, 1, 0
	for price := high; price >= 0; price-- {
		d, s := demand(bids, price), supply(asks, price)
		turnover := min(d, s)
		if named[price] && (turnover > most || turnover == most && (best < 0 || max(d-s, s-d) <= apart)) {
			best, most, apart = price, turnover, max(d-s, s-d)
		}
	}
	return best
}

// queue returns the parties of orders ton by ton: always that of the order that comes before all others.
func queue(orders []api.FreightBid, before func(a, b api.FreightBid) bool) []int {
	var tons []int
	orders = slices.Clone(orders)
	for len(orders) > 0 {
		first := 0
		for i, b := range orders {
			if before(b, orders[first]) {
				first = i
			}
		}
		tons = append(tons, slices.Repeat([]int{orders[first].Party}, orders[first].Tons)...)
		orders = slices.Delete(orders, first, first+1)
	}
	return tons
}

// sooner tells which one of two orders of the same price is first.
func sooner(a, b api.FreightBid) bool {
	return a.Minute < b.Minute || a.Minute == b.Minute && a.Party < b.Party
}

// tonByTon returns the trades at a price, ton by ton.
func tonByTon(bids, asks []api.FreightBid, price int) []api.FreightTrade {
	bids = slices.DeleteFunc(slices.Clone(bids), func(b api.FreightBid) bool { return b.Price < price })
	asks = slices.DeleteFunc(slices.Clone(asks), func(b api.FreightBid) bool { return b.Price > price })
	buyers := queue(bids, func(a, b api.FreightBid) bool { return a.Price > b.Price || a.Price == b.Price && sooner(a, b) })
	sellers := queue(asks, func(a, b api.FreightBid) bool { return a.Price < b.Price || a.Price == b.Price && sooner(a, b) })
	var trades []api.FreightTrade
	for i := range min(len(buyers), len(sellers)) {
		last := len(trades) - 1
		if last < 0 || trades[last].Buyer != buyers[i] || trades[last].Seller != sellers[i] {
			trades = append(trades, api.FreightTrade{Buyer: buyers[i], Seller: sellers[i]})
			last++
		}
		trades[last].Tons++
	}
	return trades
}

// P7.1: the first example.
func TestExampleOfMatch(t *testing.T) {
	price, trades, e := freight.Match(bids(), asks())
	want := []api.FreightTrade{{Buyer: 1, Seller: 3, Tons: 800}, {Buyer: 1, Seller: 4, Tons: 200}}
	if price != 850 || !slices.Equal(trades, want) || e != api.OK {
		t.Error(price, trades, e)
	}
}

// P7.1: which price is taken.
func TestPrice(t *testing.T) {
	for name, x := range map[string]struct {
		bids, asks []api.FreightBid
		price      int
	}{
		"the greatest turnover":         {[]api.FreightBid{order(1, 5, 90, 0), order(2, 4, 50, 0)}, []api.FreightBid{order(3, 9, 40, 0), order(4, 9, 60, 0)}, 40},
		"the least difference":          {[]api.FreightBid{order(1, 5, 90, 0), order(2, 4, 50, 0)}, []api.FreightBid{order(3, 5, 40, 0)}, 90},
		"more wanted than offered":      {[]api.FreightBid{order(1, 5, 90, 0), order(2, 4, 50, 0)}, []api.FreightBid{order(3, 5, 40, 0), order(4, 3, 60, 0)}, 60},
		"the least of equal prices":     {[]api.FreightBid{order(1, 5, 90, 0)}, []api.FreightBid{order(3, 5, 40, 0)}, 40},
		"the price of a bid":            {[]api.FreightBid{order(1, 5, 90, 0), order(2, 2, 70, 0)}, []api.FreightBid{order(3, 5, 40, 0)}, 90},
		"0":                             {[]api.FreightBid{order(1, 5, 0, 0)}, []api.FreightBid{order(3, 5, 0, 0)}, 0},
		"of an order that is not taken": {[]api.FreightBid{order(1, 5, 90, 0), order(2, 1, 20, 0)}, []api.FreightBid{order(3, 7, 60, 0)}, 60},
	} {
		if price, _, e := freight.Match(x.bids, x.asks); price != x.price || e != api.OK {
			t.Errorf("%s: %d, not %d; error %d", name, price, x.price, e)
		}
	}
}

// P7.1: the order of trades is by price, then by minute, then by party, whatever the order of bids and asks.
func TestTrades(t *testing.T) {
	bids := []api.FreightBid{order(9, 10, 50, 3), order(2, 10, 50, 4), order(5, 10, 60, 9), order(7, 10, 50, 3), order(8, 90, 10, 0)}
	asks := []api.FreightBid{order(5, 10, 50, 1), order(3, 15, 50, 0), order(4, 10, 20, 8), order(2, 9, 50, 1), order(1, 99, 70, 0)}
	want := []api.FreightTrade{
		{Buyer: 5, Seller: 4, Tons: 10}, {Buyer: 7, Seller: 3, Tons: 10}, {Buyer: 9, Seller: 3, Tons: 5},
		{Buyer: 9, Seller: 2, Tons: 5}, {Buyer: 2, Seller: 2, Tons: 4}, {Buyer: 2, Seller: 5, Tons: 6},
	}
	price, trades, e := freight.Match(bids, asks)
	if price != 50 || !slices.Equal(trades, want) || e != api.OK {
		t.Error(price, trades, e)
	}
	own := []api.FreightBid{order(3, 4, 7, 0)}
	if price, trades, e := freight.Match(own, own); price != 7 || !slices.Equal(trades, []api.FreightTrade{{Buyer: 3, Seller: 3, Tons: 4}}) || e != api.OK {
		t.Error(price, trades, e)
	}
}

// P7.1 and P7.10: Match agrees with trades ton by ton.
func TestMatch(t *testing.T) {
	d, none := newDice(71), 0
	for i := range 3000 {
		high, late := []int{2, 6, 40}[i%3], []int{0, 2, 9}[i/3%3]
		bids, asks := d.orders(1+i%8, 1+i%12, high, late), d.orders(1+i/2%8, 1+i/3%12, high, late)
		price, trades, e := freight.Match(bids, asks)
		want := clearingPrice(bids, asks, high)
		if want < 0 {
			none++
			expect(t, "nothing is traded", match(bids, asks), api.ErrNone)
			continue
		}
		if price != want || !slices.Equal(trades, tonByTon(bids, asks, want)) || e != api.OK {
			t.Fatalf("%v, %v: price %d, not %d; %v, not %v; error %d", bids, asks, price, want, trades, tonByTon(bids, asks, want), e)
		}
	}
	if none < 100 || none > 2000 {
		t.Errorf("nothing is traded in %d cases", none)
	}
}
