package freight_test

import (
	"math"
	"math/rand"
	"reflect"
	"slices"
	"testing"

	"thalweg/api"
	"thalweg/freight"
)

// order returns a bid or an ask.
func order(party, tons, price, minute int) api.FreightBid {
	return api.FreightBid{Party: party, Tons: tons, Price: price, Minute: minute}
}

// message returns the first revision of a message about charter 0.
func message(number int, kind api.FactKind, minute, value int) api.FreightMessage {
	return api.FreightMessage{Number: number, Kind: kind, Minute: minute, Value: value}
}

// offer returns an offer.
func offer(from, to, begin, end, pay int) api.FreightOffer {
	return api.FreightOffer{From: from, To: to, Begin: begin, End: end, Pay: pay}
}

// charter returns the charter of the chapter's examples.
func charter() api.Charter {
	return api.Charter{
		Shipper: 1, Carrier: 2, Broker: 3, Rate: 850, Tons: 1200, Laytime: 1440, Notice: 360,
		Demurrage: 144000, Commission: 5, Water: []api.LowWater{{Below: 150, Percent: 40}, {Below: 200, Percent: 20}},
	}
}

// holiday returns the free times of the chapter's examples.
func holiday() []api.FreeTime { return []api.FreeTime{{From: 1000, To: 1440}} }

// messages returns the messages of the chapter's examples.
func messages() []api.FreightMessage {
	return []api.FreightMessage{
		message(0, api.FactNotice, 0, 0), message(1, api.FactStop, 500, 0), message(2, api.FactResume, 560, 0),
		message(3, api.FactEnd, 3000, 0), message(4, api.FactTons, 3000, 1000), message(5, api.FactLevel, 0, 180),
	}
}

// bids, asks and offers return those of the chapter's examples.
func bids() []api.FreightBid { return []api.FreightBid{order(1, 1000, 900, 0), order(2, 500, 800, 0)} }

func asks() []api.FreightBid { return []api.FreightBid{order(3, 800, 700, 0), order(4, 900, 850, 0)} }

func offers() []api.FreightOffer {
	return []api.FreightOffer{offer(0, 100, 0, 600, 50000), offer(100, 300, 700, 1500, 40000), offer(0, 300, 0, 1400, 80000)}
}

// without returns the messages of all but some kinds.
func without(l []api.FreightMessage, kinds ...api.FactKind) []api.FreightMessage {
	return slices.DeleteFunc(slices.Clone(l), func(m api.FreightMessage) bool { return slices.Contains(kinds, m.Kind) })
}

// of returns messages as those of another charter.
func of(number int, l []api.FreightMessage) []api.FreightMessage {
	l = slices.Clone(l)
	for i := range l {
		l[i].Charter = number
	}
	return l
}

// outcome is the error of a call, and whether all its other results are zero values.
type outcome struct {
	e    api.Errno
	zero bool
}

// outcomeOf returns the outcome of a call with these results.
func outcomeOf(e api.Errno, results ...any) outcome {
	return outcome{e, !slices.ContainsFunc(results, func(x any) bool { return !reflect.ValueOf(x).IsZero() })}
}

// expect fails the test unless a call had an error, and zero values beside it.
func expect(t *testing.T, name string, got outcome, e api.Errno) {
	t.Helper()
	if got.e != e || e != api.OK && !got.zero {
		t.Errorf("%s: error %d, not %d; zero values: %t", name, got.e, e, got.zero)
	}
}

// The outcomes of the functions, by their names.

func match(bids, asks []api.FreightBid) outcome {
	price, trades, e := freight.Match(bids, asks)
	return outcomeOf(e, price, trades)
}

func facts(l []api.FreightMessage) outcome {
	list, e := freight.Facts(l)
	return outcomeOf(e, list)
}

func laytime(c api.Charter, free []api.FreeTime, l []api.FreightMessage) outcome {
	n, e := freight.Laytime(c, free, l)
	return outcomeOf(e, n)
}

func bill(c api.Charter, free []api.FreeTime, l []api.FreightMessage) outcome {
	b, e := freight.Bill(c, free, l)
	return outcomeOf(e, b)
}

func balance(charters []api.Charter, free []api.FreeTime, l []api.FreightMessage) outcome {
	balances, e := freight.Balance(charters, free, l)
	return outcomeOf(e, balances)
}

func best(l []api.FreightOffer, place, minute, slow, cost int) outcome {
	list, gain, e := freight.Best(l, place, minute, slow, cost)
	return outcomeOf(e, list, gain)
}

// expectMessages fails the test unless all functions with messages have an error for some.
func expectMessages(t *testing.T, name string, l []api.FreightMessage, e api.Errno) {
	t.Helper()
	expect(t, name+": Facts", facts(l), e)
	expect(t, name+": Laytime", laytime(charter(), nil, l), e)
	expect(t, name+": Bill", bill(charter(), nil, l), e)
	expect(t, name+": Balance", balance([]api.Charter{charter()}, nil, l), e)
}

// limit is a number of something that must lie within limits.
type limit[T any] struct {
	name      string
	number    func(x *T) *int
	low, high int
}

// eachLimit calls a function with a change that makes a number of something the least or the greatest one that is allowed, one that is less or greater than these, or one of the least and the greatest integers.
func eachLimit[T any](limits []limit[T], call func(name string, change func(x *T), e api.Errno)) {
	for _, l := range limits {
		for n, e := range map[int]api.Errno{
			l.low: api.OK, l.high: api.OK, l.low - 1: api.ErrArg, l.high + 1: api.ErrArg,
			math.MinInt: api.ErrArg, math.MinInt + 1: api.ErrArg, math.MaxInt - 1: api.ErrArg, math.MaxInt: api.ErrArg,
		} {
			call(l.name, func(x *T) { *l.number(x) = n }, e)
		}
	}
}

// dice makes contracts that look random, but are the same in each run.
type dice struct {
	*rand.Rand
}

func newDice(seed int64) dice { return dice{rand.New(rand.NewSource(seed))} }

// from returns a number from low to high.
func (d dice) from(low, high int) int { return low + d.Intn(high-low+1) }

// orders returns at most some bids or asks, with prices up to a highest one.
func (d dice) orders(most, tons, price, minute int) []api.FreightBid {
	var list []api.FreightBid
	for _, party := range d.Perm(api.MaxTraders)[:d.from(0, most)] {
		list = append(list, order(party, d.from(1, tons), d.from(0, price), d.from(0, minute)))
	}
	return list
}

// charter returns a charter.
func (d dice) charter() api.Charter {
	c := api.Charter{
		Shipper: d.from(0, 5), Carrier: d.from(0, 5), Broker: d.from(0, 5), Rate: d.from(0, 900), Tons: d.from(0, 50),
		Laytime: d.from(0, 60), Notice: d.from(0, 20), Demurrage: d.from(0, 5000), Despatch: d.from(0, 5000), Commission: d.from(0, 100),
	}
	for below := d.from(0, 20); below <= 60 && len(c.Water) < 10; below += d.from(1, 30) {
		c.Water = append(c.Water, api.LowWater{Below: below, Percent: d.from(0, 50)})
	}
	return c
}

// free returns at most some free times.
func (d dice) free(most int) []api.FreeTime {
	var list []api.FreeTime
	for range d.from(0, most) {
		from := d.from(0, 120)
		list = append(list, api.FreeTime{From: from, To: from + d.from(0, 30)})
	}
	return list
}

// work returns messages with which a charter can be settled: its numbers are not in the order of the minutes, and some were corrected.
func (d dice) work(charter int) []api.FreightMessage {
	numbers, minute := d.Perm(40), d.from(0, 20)
	list := []api.FreightMessage{
		message(numbers[0], api.FactNotice, minute, d.from(0, 9)),
		message(numbers[1], api.FactTons, d.from(0, 200), d.from(0, 90)),
		message(numbers[2], api.FactLevel, d.from(0, 200), d.from(0, 80)),
	}
	for i := range d.from(0, 6) {
		minute += d.from(1, 30)
		list = append(list, message(numbers[3+i], api.FactStop+api.FactKind(i%2), minute, d.from(0, 9)))
	}
	list = append(list, message(numbers[9], api.FactEnd, minute+d.from(1, 60), 0))
	for i, m := range list {
		if d.from(0, 2) == 0 {
			list = append(list, m)
			list[i].Revision, list[len(list)-1].Revision = 2, d.from(0, 1)
			list[len(list)-1].Minute, list[len(list)-1].Kind = d.from(0, 200), api.FactKind(d.from(1, 7))
		}
	}
	return d.shuffled(append(of(charter, list), api.FreightMessage{Charter: charter, Number: numbers[10], Kind: api.FactWithdrawn}))
}

// shuffled returns messages in another order, some of them twice.
func (d dice) shuffled(l []api.FreightMessage) []api.FreightMessage {
	for _, m := range l {
		if d.from(0, 3) == 0 {
			l = append(l, m)
		}
	}
	return shuffled(d, l)
}

// shuffled returns a list in another order.
func shuffled[T any](d dice, l []T) []T {
	l = slices.Clone(l)
	d.Shuffle(len(l), func(i, j int) { l[i], l[j] = l[j], l[i] })
	return l
}

// offers returns at most some offers, at a few places and minutes.
func (d dice) offers(most, place, minute, pay int) []api.FreightOffer {
	var list []api.FreightOffer
	for range d.from(0, most) {
		begin := d.from(0, minute)
		list = append(list, offer(d.from(0, place), d.from(0, place), begin, begin+d.from(0, 4), d.from(0, pay)))
	}
	return list
}
