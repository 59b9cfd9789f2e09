package freight_test

import (
	"slices"
	"testing"

	"thalweg/api"
	"thalweg/freight"
)

// The numbers of what is given, and their limits.

var orderLimits = []limit[api.FreightBid]{
	{"party", func(b *api.FreightBid) *int { return &b.Party }, 0, 99},
	{"tons", func(b *api.FreightBid) *int { return &b.Tons }, 1, 1000000},
	{"price", func(b *api.FreightBid) *int { return &b.Price }, 0, 1000000},
	{"minute", func(b *api.FreightBid) *int { return &b.Minute }, 0, 100000},
}

var messageLimits = []limit[api.FreightMessage]{
	{"charter", func(m *api.FreightMessage) *int { return &m.Charter }, 0, 9},
	{"number", func(m *api.FreightMessage) *int { return &m.Number }, 0, 999},
	{"revision", func(m *api.FreightMessage) *int { return &m.Revision }, 0, 99},
	{"kind", func(m *api.FreightMessage) *int { return (*int)(&m.Kind) }, 1, 7},
	{"minute", func(m *api.FreightMessage) *int { return &m.Minute }, 0, 100000},
	{"value", func(m *api.FreightMessage) *int { return &m.Value }, 0, 1000000},
}

var charterLimits = []limit[api.Charter]{
	{"shipper", func(c *api.Charter) *int { return &c.Shipper }, 0, 99},
	{"carrier", func(c *api.Charter) *int { return &c.Carrier }, 0, 99},
	{"broker", func(c *api.Charter) *int { return &c.Broker }, 0, 99},
	{"rate", func(c *api.Charter) *int { return &c.Rate }, 0, 1000000},
	{"tons", func(c *api.Charter) *int { return &c.Tons }, 0, 1000000},
	{"laytime", func(c *api.Charter) *int { return &c.Laytime }, 0, 100000},
	{"notice", func(c *api.Charter) *int { return &c.Notice }, 0, 100000},
	{"demurrage", func(c *api.Charter) *int { return &c.Demurrage }, 0, 100000000},
	{"despatch", func(c *api.Charter) *int { return &c.Despatch }, 0, 100000000},
	{"commission", func(c *api.Charter) *int { return &c.Commission }, 0, 100},
	{"the first row", func(c *api.Charter) *int { return &c.Water[0].Below }, 0, 199},
	{"the last row", func(c *api.Charter) *int { return &c.Water[1].Below }, 151, 10000},
	{"percent of the first row", func(c *api.Charter) *int { return &c.Water[0].Percent }, 0, 1000},
	{"percent of the last row", func(c *api.Charter) *int { return &c.Water[1].Percent }, 0, 1000},
}

var freeLimits = []limit[api.FreeTime]{
	{"from", func(f *api.FreeTime) *int { return &f.From }, 0, 1440},
	{"to", func(f *api.FreeTime) *int { return &f.To }, 1000, 100000},
}

var offerLimits = []limit[api.FreightOffer]{
	{"from", func(o *api.FreightOffer) *int { return &o.From }, 0, 100000},
	{"to", func(o *api.FreightOffer) *int { return &o.To }, 0, 100000},
	{"begin", func(o *api.FreightOffer) *int { return &o.Begin }, 0, 1500},
	{"end", func(o *api.FreightOffer) *int { return &o.End }, 700, 100000},
	{"pay", func(o *api.FreightOffer) *int { return &o.Pay }, 0, 1000000000},
}

// rows returns a bonus table whose rows ascend by 1.
func rows(number int) []api.LowWater {
	var list []api.LowWater
	for i := range number {
		list = append(list, api.LowWater{Below: i, Percent: 1})
	}
	return list
}

// P7.3: ErrArg unless the charter is valid; all functions with charters have this error, too.
func TestCharters(t *testing.T) {
	eachLimit(charterLimits, func(name string, change func(c *api.Charter), e api.Errno) {
		c := charter()
		change(&c)
		if got := freight.CheckCharter(c); got != e {
			t.Errorf("%s, %v: error %d, not %d", name, c, got, e)
		}
		expect(t, name+": Laytime", laytime(c, nil, messages()), e)
		expect(t, name+": Bill", bill(c, nil, messages()), e)
		expect(t, name+": Balance", balance([]api.Charter{charter(), c}, nil, messages()), e)
	})
	for name, x := range map[string]struct {
		water []api.LowWater
		e     api.Errno
	}{
		"nil":                {nil, api.OK},
		"empty":              {[]api.LowWater{}, api.OK},
		"10 rows":            {rows(10), api.OK},
		"11 rows":            {rows(11), api.ErrArg},
		"twice the same":     {[]api.LowWater{{Below: 5}, {Below: 5}}, api.ErrArg},
		"descending":         {[]api.LowWater{{Below: 1}, {Below: 6}, {Below: 5}}, api.ErrArg},
		"percents descend":   {[]api.LowWater{{Below: 1, Percent: 9}, {Below: 6, Percent: 3}}, api.OK},
		"the second too big": {[]api.LowWater{{Below: 1, Percent: 9}, {Below: 6, Percent: 1001}, {Below: 7}}, api.ErrArg},
	} {
		c := charter()
		c.Water = x.water
		if got := freight.CheckCharter(c); got != x.e {
			t.Errorf("%s: error %d, not %d", name, got, x.e)
		}
	}
	if e := freight.CheckCharter(api.Charter{}); e != api.OK {
		t.Errorf("a charter of zero values: error %d", e)
	}
}

// P7.1: ErrLong if there are more than 30 bids or asks, ErrArg unless each one is valid, ErrTwice if two bids, or two asks, have the same party.
func TestErrorsOfMatch(t *testing.T) {
	eachLimit(orderLimits, func(name string, change func(b *api.FreightBid), e api.Errno) {
		l, wide := bids(), []api.FreightBid{order(5, 1, 0, 0), order(6, 1, 1000000, 0)}
		change(&l[1])
		expect(t, name+" of a bid", match(l, wide), e)
		expect(t, name+" of an ask", match(wide, l), e)
	})
	many := slices.Repeat(asks(), 16)
	wrong := []api.FreightBid{order(1, 0, 0, 0)}
	twice := []api.FreightBid{order(1, 9, 9, 0), order(2, 9, 9, 0), order(1, 5, 9, 1)}
	for name, x := range map[string]struct {
		bids, asks []api.FreightBid
		e          api.Errno
	}{
		"31 bids":                 {many[:31], asks(), api.ErrLong},
		"31 asks":                 {bids(), many[:31], api.ErrLong},
		"31 asks, a wrong bid":    {wrong, many[:31], api.ErrLong},
		"30 bids, not different":  {many[:30], asks(), api.ErrTwice},
		"30 asks, not different":  {bids(), many[:30], api.ErrTwice},
		"bids twice, a wrong ask": {twice, wrong, api.ErrArg},
		"asks twice, a wrong bid": {wrong, twice, api.ErrArg},
		"bids twice":              {twice, asks(), api.ErrTwice},
		"asks twice":              {bids(), twice, api.ErrTwice},
		"bids twice, no asks":     {twice, nil, api.ErrTwice},
		"asks twice, no bids":     {nil, twice, api.ErrTwice},
		"a bid and an ask":        {bids(), bids(), api.OK},
		"no bids":                 {nil, asks(), api.ErrNone},
		"no asks":                 {bids(), nil, api.ErrNone},
		"no orders":               {nil, nil, api.ErrNone},
		"too dear":                {asks()[:1], bids()[1:], api.ErrNone},
		"just dear enough":        {[]api.FreightBid{order(1, 5, 700, 0)}, asks(), api.OK},
	} {
		expect(t, name, match(x.bids, x.asks), x.e)
	}
}

// P7.1: 30 bids and 30 asks are not too many.
func TestManyOrders(t *testing.T) {
	var l []api.FreightBid
	for party := range 30 {
		l = append(l, order(party, 1000000, 1000000, 100000))
	}
	price, trades, e := freight.Match(l, l)
	if price != 1000000 || len(trades) != 30 || e != api.OK {
		t.Error(price, trades, e)
	}
}

// P7.2: the errors of messages: ErrLong if there are more than 100, ErrArg unless each one is valid, ErrTwice if two of the same revision are not equal.
func TestErrorsOfMessages(t *testing.T) {
	eachLimit(messageLimits, func(name string, change func(m *api.FreightMessage), e api.Errno) {
		l := messages()
		change(&l[4])
		expect(t, name+": Facts", facts(l[4:]), e)
		if e != api.OK {
			expectMessages(t, name, l, e)
		}
	})
	last := messages()[5]
	for name, x := range map[string]struct {
		change func(m *api.FreightMessage)
		e      api.Errno
	}{
		"another kind":     {func(m *api.FreightMessage) { m.Kind = api.FactWithdrawn }, api.ErrTwice},
		"another minute":   {func(m *api.FreightMessage) { m.Minute = 7 }, api.ErrTwice},
		"another value":    {func(m *api.FreightMessage) { m.Value = 7 }, api.ErrTwice},
		"the same":         {func(m *api.FreightMessage) {}, api.OK},
		"another revision": {func(m *api.FreightMessage) { m.Revision, m.Value = 1, 7 }, api.OK},
	} {
		m := last
		x.change(&m)
		expectMessages(t, name, append(messages(), m), x.e)
		expectMessages(t, name+", first", append([]api.FreightMessage{m}, messages()...), x.e)
	}
	other := last
	other.Charter, other.Value = 9, 7
	expect(t, "another charter", facts(append(messages(), other)), api.OK)
	other.Charter, other.Number = 0, 6
	expect(t, "another number", facts(append(messages(), other)), api.OK)
	many := append(messages(), slices.Repeat(messages()[:1], 94)...)
	expectMessages(t, "100 messages", many, api.OK)
	expectMessages(t, "101 messages", append(many, many[0]), api.ErrLong)
	expectMessages(t, "101 messages, a wrong one", append(many, api.FreightMessage{}), api.ErrLong)
	many[99].Minute = 1
	expectMessages(t, "contradictions", many, api.ErrTwice)
	many[98].Kind = 8
	expectMessages(t, "a wrong one, and contradictions", many, api.ErrArg)
}

// Errors that are revised do not matter, but those of messages that are revised do.
func TestErrorsOfOldMessages(t *testing.T) {
	newer := message(9, api.FactWithdrawn, 0, 0)
	newer.Revision = 2
	l := append(messages(), newer, message(9, api.FactStop, 1, 0), message(9, api.FactStop, 2, 0))
	expectMessages(t, "contradictions in an old revision", l, api.ErrTwice)
	expectMessages(t, "none any more", l[:8], api.OK)
}

// input is what Laytime and Bill are given.
type input struct {
	c    api.Charter
	free []api.FreeTime
	l    []api.FreightMessage
}

// flaw is what gives an input an error.
type flaw struct {
	name   string
	change func(in *input)
	e      api.Errno
}

// add returns a change that adds messages.
func add(l ...api.FreightMessage) func(in *input) {
	return func(in *input) { in.l = append(in.l, l...) }
}

// flaws returns the errors of Bill in their order: those of Laytime are all but the last one.
func flaws() []flaw {
	return []flaw{
		{"a wrong charter", func(in *input) { in.c.Commission = 101 }, api.ErrArg},
		{"31 free times", func(in *input) { in.free = slices.Repeat(in.free, 31) }, api.ErrLong},
		{"a wrong free time", func(in *input) { in.free[0] = api.FreeTime{From: 5, To: 4} }, api.ErrArg},
		{"101 messages", add(slices.Repeat([]api.FreightMessage{message(24, api.FactWithdrawn, 0, 0)}, 100)...), api.ErrLong},
		{"a wrong message", add(message(1000, api.FactWithdrawn, 0, 0)), api.ErrArg},
		{"a contradiction", add(message(23, api.FactWithdrawn, 1, 0), message(23, api.FactWithdrawn, 2, 0)), api.ErrTwice},
		{"two charters", add(api.FreightMessage{Charter: 1, Number: 22, Kind: api.FactWithdrawn}), api.ErrForm},
		{"two notices", add(message(21, api.FactNotice, 0, 0)), api.ErrTwice},
		{"no end", func(in *input) { in.l = without(in.l, api.FactEnd) }, api.ErrNone},
		{"work goes on first", add(message(20, api.FactResume, 100, 0)), api.ErrState},
		{"no tons", func(in *input) { in.l = without(in.l, api.FactTons) }, api.ErrNone},
	}
}

// P7.4 and P7.5: of several errors the one named first is returned.
func TestOrderOfErrors(t *testing.T) {
	list := flaws()
	for first := range list {
		in := input{charter(), holiday(), messages()}
		for i := len(list) - 1; i >= first; i-- {
			list[i].change(&in)
		}
		expect(t, list[first].name+": Bill", bill(in.c, in.free, in.l), list[first].e)
		single := input{charter(), holiday(), messages()}
		list[first].change(&single)
		expect(t, list[first].name+" alone: Bill", bill(single.c, single.free, single.l), list[first].e)
		if first < len(list)-1 {
			expect(t, list[first].name+": Laytime", laytime(in.c, in.free, in.l), list[first].e)
			expect(t, list[first].name+" alone: Laytime", laytime(single.c, single.free, single.l), list[first].e)
		}
	}
	expect(t, "no tons: Laytime", laytime(charter(), nil, without(messages(), api.FactTons, api.FactLevel)), api.OK)
}

// P7.4: free times have ErrArg unless 0 <= From <= To <= 100000, and ErrLong if there are more than 30.
func TestFreeTimes(t *testing.T) {
	eachLimit(freeLimits, func(name string, change func(f *api.FreeTime), e api.Errno) {
		free := append(holiday(), holiday()...)
		change(&free[1])
		expect(t, name+": Laytime", laytime(charter(), free, messages()), e)
		expect(t, name+": Bill", bill(charter(), free, messages()), e)
		expect(t, name+": Balance", balance(nil, free, nil), e)
	})
	many := slices.Repeat(holiday(), 31)
	expect(t, "30: Laytime", laytime(charter(), many[:30], messages()), api.OK)
	expect(t, "31: Laytime", laytime(charter(), many, messages()), api.ErrLong)
	expect(t, "31: Bill", bill(charter(), many, messages()), api.ErrLong)
	expect(t, "30: Balance", balance(nil, many[:30], nil), api.OK)
	expect(t, "31: Balance", balance(nil, many, nil), api.ErrLong)
}

// P7.4: ErrForm unless all messages have the same charter, which may be any one, also those that are revised or withdrawn.
func TestOneCharter(t *testing.T) {
	other := api.FreightMessage{Charter: 3, Number: 7, Kind: api.FactStop, Minute: 5}
	newer := api.FreightMessage{Charter: 3, Number: 7, Revision: 1, Kind: api.FactWithdrawn}
	for name, x := range map[string]struct {
		l []api.FreightMessage
		e api.Errno
	}{
		"all of charter 9":       {of(9, messages()), api.OK},
		"one of them withdrawn":  {append(messages(), other, newer), api.ErrForm},
		"the first of charter 3": {append([]api.FreightMessage{newer}, messages()...), api.ErrForm},
		"all of charter 3":       {append(of(3, messages()), other, newer), api.OK},
		"no messages":            {nil, api.ErrNone},
		"all of them withdrawn":  {[]api.FreightMessage{newer}, api.ErrNone},
	} {
		expect(t, name+": Laytime", laytime(charter(), nil, x.l), x.e)
		expect(t, name+": Bill", bill(charter(), nil, x.l), x.e)
	}
}

// P7.4: ErrTwice if a notice, an end, tons or a level is there twice, also if they say the same; not if one of them is revised.
func TestFactsTwice(t *testing.T) {
	for _, m := range without(messages(), api.FactStop, api.FactResume) {
		again := m
		again.Number = 30
		l := append(messages(), again)
		expect(t, "twice: Laytime", laytime(charter(), nil, l), api.ErrTwice)
		expect(t, "twice: Bill", bill(charter(), nil, l), api.ErrTwice)
		again.Revision, again.Kind = 1, api.FactWithdrawn
		expect(t, "withdrawn: Bill", bill(charter(), nil, append(l, again)), api.OK)
		again.Number, again.Kind = m.Number, m.Kind
		expect(t, "revised: Bill", bill(charter(), nil, append(messages(), again)), api.OK)
	}
	for kind := api.FactNotice; kind <= api.FactLevel; kind++ {
		l := append(messages(), message(31, kind, 700, 0), message(32, kind, 710, 0))
		e := api.ErrTwice
		if kind == api.FactStop || kind == api.FactResume {
			e = api.ErrState
		}
		expect(t, "two more: Laytime", laytime(charter(), nil, l), e)
	}
}

// P7.4 and P7.5: ErrNone unless there are a notice and an end; for Bill, unless there are tons, and a level if the water has rows.
func TestMissingFacts(t *testing.T) {
	dry, row := charter(), charter()
	dry.Water, row.Water = nil, row.Water[:1]
	for kind := api.FactNotice; kind <= api.FactLevel; kind++ {
		l := without(messages(), kind)
		lay, paid, dryPaid := api.OK, api.OK, api.OK
		switch kind {
		case api.FactNotice, api.FactEnd:
			lay, paid, dryPaid = api.ErrNone, api.ErrNone, api.ErrNone
		case api.FactStop:
			lay, paid, dryPaid = api.ErrState, api.ErrState, api.ErrState
		case api.FactTons:
			paid, dryPaid = api.ErrNone, api.ErrNone
		case api.FactLevel:
			paid = api.ErrNone
		}
		expect(t, "Laytime", laytime(charter(), nil, l), lay)
		expect(t, "Bill", bill(charter(), nil, l), paid)
		expect(t, "Bill with one row", bill(row, nil, l), paid)
		expect(t, "Bill without rows", bill(dry, nil, l), dryPaid)
	}
	expect(t, "neither notice nor end", laytime(charter(), nil, without(messages(), api.FactNotice, api.FactEnd)), api.ErrNone)
}

// books is what Balance is given.
type books struct {
	charters []api.Charter
	free     []api.FreeTime
	l        []api.FreightMessage
}

// flawsOfBooks returns the errors of Balance in their order.
func flawsOfBooks() []struct {
	name   string
	change func(b *books)
	e      api.Errno
} {
	add := func(l ...api.FreightMessage) func(b *books) {
		return func(b *books) { b.l = append(b.l, l...) }
	}
	return []struct {
		name   string
		change func(b *books)
		e      api.Errno
	}{
		{"11 charters", func(b *books) { b.charters = append(b.charters, make([]api.Charter, 9)...) }, api.ErrLong},
		{"a wrong charter", func(b *books) { b.charters[1].Rate = -1 }, api.ErrArg},
		{"31 free times", func(b *books) { b.free = slices.Repeat(b.free, 31) }, api.ErrLong},
		{"a wrong free time", func(b *books) { b.free[0].To = 999 }, api.ErrArg},
		{"101 messages", add(slices.Repeat(messages()[:1], 90)...), api.ErrLong},
		{"a wrong message", add(message(0, 0, 0, 0)), api.ErrArg},
		{"a contradiction", add(message(0, api.FactNotice, 1, 0)), api.ErrTwice},
		{"no such charter", add(api.FreightMessage{Charter: 2, Kind: api.FactWithdrawn}), api.ErrNone},
		{"an error of charter 0", add(message(20, api.FactResume, 100, 0)), api.ErrState},
		{"an error of charter 1", add(of(1, []api.FreightMessage{message(20, api.FactTons, 100, 0)})...), api.ErrTwice},
	}
}

// P7.6: of several errors of Balance the one named first is returned; those of bills come charter by charter.
func TestErrorsOfBalance(t *testing.T) {
	given := func() books {
		return books{[]api.Charter{charter(), charter()}, holiday(), append(of(1, messages()), messages()...)}
	}
	list := flawsOfBooks()
	for first := range list {
		b, single := given(), given()
		for i := len(list) - 1; i >= first; i-- {
			list[i].change(&b)
		}
		list[first].change(&single)
		expect(t, list[first].name, balance(b.charters, b.free, b.l), list[first].e)
		expect(t, list[first].name+" alone", balance(single.charters, single.free, single.l), list[first].e)
	}
	b := given()
	expect(t, "no error", balance(b.charters, b.free, b.l), api.OK)
	expect(t, "10 charters", balance(append(b.charters, make([]api.Charter, 8)...), b.free, b.l), api.OK)
	withdrawn := append(b.l, api.FreightMessage{Charter: 2, Kind: api.FactWithdrawn})
	expect(t, "all withdrawn", balance(append(b.charters, charter()), b.free, withdrawn), api.ErrNone)
	expect(t, "no tons", balance(b.charters, b.free, without(b.l, api.FactTons)), api.ErrNone)
	expect(t, "no level", balance(b.charters, b.free, without(b.l, api.FactLevel)), api.ErrNone)
	expect(t, "a message, no charters", balance(nil, nil, messages()), api.ErrNone)
	expect(t, "the greatest charter", balance(b.charters, nil, of(9, messages())), api.ErrNone)
}

// P7.7: ErrLong if there are more than 12 offers, ErrArg unless each one is valid, ErrRange unless the hull is.
func TestErrorsOfBest(t *testing.T) {
	eachLimit(offerLimits, func(name string, change func(o *api.FreightOffer), e api.Errno) {
		l := offers()
		change(&l[1])
		expect(t, name, best(l, 0, 0, 1, 1), e)
	})
	ranges := []struct {
		name string
		high int
	}{{"place", 100000}, {"minute", 100000}, {"slow", 1000}, {"cost", 100000}}
	for i, r := range ranges {
		eachLimit([]limit[[4]int]{{r.name, func(x *[4]int) *int { return &x[i] }, 0, r.high}}, func(name string, change func(x *[4]int), e api.Errno) {
			x := [4]int{}
			change(&x)
			if e == api.ErrArg {
				e = api.ErrRange
			}
			expect(t, name, best(offers(), x[0], x[1], x[2], x[3]), e)
			expect(t, name+", no offers", best(nil, x[0], x[1], x[2], x[3]), e)
		})
	}
	many := slices.Repeat(offers(), 5)
	wrong := slices.Concat(many[:12], []api.FreightOffer{offer(-1, 0, 0, 0, 0)})
	expect(t, "12", best(many[:12], 0, 0, 1, 1), api.OK)
	expect(t, "13", best(many[:13], 0, 0, 1, 1), api.ErrLong)
	expect(t, "13, a wrong one, out of range", best(wrong, -1, 0, 1, 1), api.ErrLong)
	expect(t, "a wrong one, out of range", best(wrong[8:], 0, -1, 1, 1), api.ErrArg)
	expect(t, "end before begin", best([]api.FreightOffer{offer(0, 1, 5, 4, 1)}, 0, 0, 1, 1), api.ErrArg)
}
