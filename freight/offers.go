package freight

import (
	"cmp"
	"slices"

	"thalweg/api"
	"thalweg/numbers"
)

// route is a list of offers that are carried one after another, and what they gain.
type route struct {
	offers []int
	gain   int
}

// compare puts the better one of two routes first.
func (r route) compare(other route) int {
	return cmp.Or(
		cmp.Compare(other.gain, r.gain),
		cmp.Compare(len(r.offers), len(other.offers)),
		slices.Compare(r.offers, other.offers),
	)
}

// hull is an empty hull at a place at a minute, and how it moves.
type hull struct {
	place, minute, slow, cost int
}

// reaches reports whether the hull can be where an offer begins, in time.
func (h hull) reaches(o api.FreightOffer) bool {
	return h.minute+h.distance(o)*h.slow <= o.Begin
}

// distance returns how far the hull is from where an offer begins.
func (h hull) distance(o api.FreightOffer) int {
	return max(h.place-o.From, o.From-h.place)
}

// after returns the hull when it has carried an offer.
func (h hull) after(o api.FreightOffer) hull {
	h.place, h.minute = o.To, o.End
	return h
}

// market is offers, the order in which they can be carried, and the best route that begins with each of them.
type market struct {
	offers []api.FreightOffer
	order  []int
	routes []route
}

// newMarket returns the market of offers, without any routes.
func newMarket(l []api.FreightOffer) market {
	m := market{offers: l, routes: make([]route, len(l))}
	for i := range l {
		m.order = append(m.order, i)
	}
	slices.SortStableFunc(m.order, func(a, b int) int { return cmp.Compare(l[a].Begin, l[b].Begin) })
	return m
}

// best returns the best route for a hull that begins with one of some offers, or with none.
func (m market) best(h hull, candidates []int) route {
	best := route{}
	for _, i := range candidates {
		r := m.routes[i]
		r.gain -= h.distance(m.offers[i]) * h.cost
		if h.reaches(m.offers[i]) && r.compare(best) < 0 {
			best = r
		}
	}
	return best
}

// plan finds the best route that begins with each offer: the last ones first, because it goes on with one of these.
func (m market) plan(h hull) {
	for position, i := range slices.Backward(m.order) {
		next := m.best(h.after(m.offers[i]), m.order[position+1:])
		m.routes[i] = route{slices.Concat([]int{i}, next.offers), m.offers[i].Pay + next.gain}
	}
}

// Best returns the offers that pay most for a hull, and their gain.
func Best(l []api.FreightOffer, place, minute, slow, cost int) (offers []int, gain int, e api.Errno) {
	if len(l) > api.MaxOffers {
		return nil, 0, api.ErrLong
	}
	if !validOffers(l) {
		return nil, 0, api.ErrArg
	}
	inRange := numbers.Within(0, api.MaxOfferPlace, place) && validMinutes(minute) &&
		numbers.Within(0, api.MaxOfferSlow, slow) && numbers.Within(0, api.MaxOfferCost, cost)
	if !inRange {
		return nil, 0, api.ErrRange
	}
	h, m := hull{place, minute, slow, cost}, newMarket(l)
	m.plan(h)
	best := m.best(h, m.order)
	return best.offers, best.gain, api.OK
}
