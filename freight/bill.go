package freight

import (
	"slices"

	"thalweg/api"
	"thalweg/numbers"
)

// minutesOfDay is for how many minutes the rates of a day are paid.
const minutesOfDay = 1440

// rounded returns the integer nearest to a / b, for b above 0: of two that are equally near, the greater one.
func rounded(a, b int) int {
	return numbers.Down(2*a+b, 2*b)
}

// percent returns how many percent are paid beside the freight at a level.
func (c call) percent(level int) int {
	for _, row := range c.Water {
		if row.Below > level {
			return row.Percent
		}
	}
	return 0
}

// bill settles the charter.
func (c call) bill() (api.FreightBill, api.Errno) {
	tons, levels := c.all(api.FactTons), c.all(api.FactLevel)
	if len(tons) == 0 || len(c.Water) > 0 && len(levels) == 0 {
		return api.FreightBill{}, api.ErrNone
	}
	time := c.count()
	b := api.FreightBill{
		Freight:   c.Rate * max(tons[0].Value, c.Tons),
		Demurrage: rounded(time.Over*c.Demurrage, minutesOfDay),
		Despatch:  rounded(time.Saved*c.Despatch, minutesOfDay),
	}
	for _, f := range levels {
		b.Bonus = rounded(b.Freight*c.percent(f.Value), 100)
	}
	b.Commission = rounded((b.Freight+b.Bonus)*c.Commission, 100)
	b.Total = b.Freight + b.Bonus + b.Demurrage - b.Despatch
	return b, api.OK
}

// Bill settles a charter.
func Bill(c api.Charter, free []api.FreeTime, l []api.FreightMessage) (api.FreightBill, api.Errno) {
	quay, e := newCall(c, free, l)
	if e != api.OK {
		return api.FreightBill{}, e
	}
	return quay.bill()
}

// checkCharters returns the error of charters.
func checkCharters(charters []api.Charter) api.Errno {
	if len(charters) > api.MaxCharters {
		return api.ErrLong
	}
	if !numbers.Every(charters, func(c api.Charter) bool { return CheckCharter(c) == api.OK }) {
		return api.ErrArg
	}
	return api.OK
}

// checkBalance returns the error of what Balance is given, before any charter is settled.
func checkBalance(charters []api.Charter, free []api.FreeTime, l []api.FreightMessage) api.Errno {
	if e := checkCharters(charters); e != api.OK {
		return e
	}
	if e := checkFree(free); e != api.OK {
		return e
	}
	if _, e := Facts(l); e != api.OK {
		return e
	}
	if !numbers.Every(l, func(m api.FreightMessage) bool { return m.Charter < len(charters) }) {
		return api.ErrNone
	}
	return api.OK
}

// pay moves money from one party to another one.
func pay(balances []int, from, to, money int) {
	balances[from] -= money
	balances[to] += money
}

// Balance settles several charters, and returns the balance of each party.
func Balance(charters []api.Charter, free []api.FreeTime, l []api.FreightMessage) ([]int, api.Errno) {
	if e := checkBalance(charters, free, l); e != api.OK {
		return nil, e
	}
	balances := make([]int, api.MaxTraders)
	for i, c := range charters {
		messages := slices.DeleteFunc(slices.Clone(l), func(m api.FreightMessage) bool { return m.Charter != i })
		if len(messages) == 0 {
			continue
		}
		b, e := Bill(c, free, messages)
		if e != api.OK {
			return nil, e
		}
		pay(balances, c.Shipper, c.Carrier, b.Total)
		pay(balances, c.Carrier, c.Broker, b.Commission)
	}
	return balances, api.OK
}
