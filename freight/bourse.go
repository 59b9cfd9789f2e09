package freight

import (
	"cmp"
	"slices"

	"thalweg/api"
)

// clearing is how many tons are wanted, and how many are offered, at a price.
type clearing struct {
	price, demand, supply int
}

// turnover returns how many tons are traded.
func (c clearing) turnover() int {
	return min(c.demand, c.supply)
}

// difference returns how many tons are not traded, though they are wanted or offered.
func (c clearing) difference() int {
	return max(c.demand, c.supply) - c.turnover()
}

// compare puts the better one of two clearings first.
func (c clearing) compare(other clearing) int {
	return cmp.Or(
		cmp.Compare(other.turnover(), c.turnover()),
		cmp.Compare(c.difference(), other.difference()),
		cmp.Compare(c.price, other.price),
	)
}

// repeated reports whether two orders have the same party.
func repeated(orders []api.FreightBid) bool {
	found := map[int]bool{}
	for _, b := range orders {
		found[b.Party] = true
	}
	return len(found) < len(orders)
}

// checkOrders returns the error of bids and asks.
func checkOrders(bids, asks []api.FreightBid) api.Errno {
	switch {
	case max(len(bids), len(asks)) > api.MaxBids:
		return api.ErrLong
	case !validOrders(bids) || !validOrders(asks):
		return api.ErrArg
	case repeated(bids) || repeated(asks):
		return api.ErrTwice
	}
	return api.OK
}

// earlier puts the first one of two orders of the same price first.
func earlier(a, b api.FreightBid) int {
	return cmp.Or(cmp.Compare(a.Minute, b.Minute), cmp.Compare(a.Party, b.Party))
}

// buyers returns the bids that are in the demand at a price, in the order in which they trade.
func buyers(bids []api.FreightBid, price int) []api.FreightBid {
	list := slices.DeleteFunc(slices.Clone(bids), func(b api.FreightBid) bool { return b.Price < price })
	slices.SortFunc(list, func(a, b api.FreightBid) int {
		return cmp.Or(cmp.Compare(b.Price, a.Price), earlier(a, b))
	})
	return list
}

// sellers returns the asks that are in the supply at a price, in the order in which they trade.
func sellers(asks []api.FreightBid, price int) []api.FreightBid {
	list := slices.DeleteFunc(slices.Clone(asks), func(b api.FreightBid) bool { return b.Price > price })
	slices.SortFunc(list, func(a, b api.FreightBid) int {
		return cmp.Or(cmp.Compare(a.Price, b.Price), earlier(a, b))
	})
	return list
}

// tonsOf returns the sum of the tons of orders.
func tonsOf(orders ...api.FreightBid) int {
	sum := 0
	for _, b := range orders {
		sum += b.Tons
	}
	return sum
}

// clearings returns those prices of bids and asks at which something is traded.
func clearings(bids, asks []api.FreightBid) []clearing {
	var list []clearing
	for _, b := range slices.Concat(bids, asks) {
		c := clearing{b.Price, tonsOf(buyers(bids, b.Price)...), tonsOf(sellers(asks, b.Price)...)}
		if c.turnover() > 0 {
			list = append(list, c)
		}
	}
	return list
}

// take takes tons from the first one of the orders that have some left.
func take(orders []api.FreightBid, tons int) []api.FreightBid {
	orders[0].Tons -= tons
	if orders[0].Tons == 0 {
		return orders[1:]
	}
	return orders
}

// trade returns the trades of bids and asks in their order. They reach the turnover when one side has no tons left.
func trade(bids, asks []api.FreightBid) []api.FreightTrade {
	var trades []api.FreightTrade
	for len(bids) > 0 && len(asks) > 0 {
		buyer, seller := bids[0], asks[0]
		tons := min(buyer.Tons, seller.Tons)
		trades = append(trades, api.FreightTrade{Buyer: buyer.Party, Seller: seller.Party, Tons: tons})
		bids, asks = take(bids, tons), take(asks, tons)
	}
	return trades
}

// Match clears the bourse: it returns the price and the trades.
func Match(bids, asks []api.FreightBid) (price int, trades []api.FreightTrade, e api.Errno) {
	if e := checkOrders(bids, asks); e != api.OK {
		return 0, nil, e
	}
	list := clearings(bids, asks)
	if len(list) == 0 {
		return 0, nil, api.ErrNone
	}
	price = slices.MinFunc(list, clearing.compare).price
	return price, trade(buyers(bids, price), sellers(asks, price)), api.OK
}
