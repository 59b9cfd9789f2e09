package empties

import (
	"thalweg/api"
	"thalweg/numbers"
)

// plan is weeks of ports, and how hulls get from week to week.
type plan struct {
	api.EmptyWeeks
}

// arrives reports whether a hull that leaves in a week on a way arrives in one of the weeks.
func (p plan) arrives(week int, w api.WeekWay) bool {
	return numbers.Within(-week, len(p.Weeks)-1-week, w.Weeks)
}

// formed reports whether there are weeks, all of them for the same ports.
func (p plan) formed() bool {
	return numbers.Within(1, api.MaxEmptyWeeks, len(p.Weeks)) && len(p.Keep) >= 1 &&
		numbers.Every(p.Weeks, func(ports []api.EmptyPort) bool { return len(ports) == len(p.Keep) })
}

// count returns how many ways a net for the plan has.
func (p plan) count() int {
	number := 0
	for week := range len(p.Weeks) - 1 {
		number += len(p.Keep)
		for _, w := range p.Ways {
			if p.arrives(week, w) {
				number++
			}
		}
	}
	return number
}

// valid reports whether all that is in the plan is valid.
func (p plan) valid() bool {
	return numbers.Within(0, api.MaxEmptyCost, p.Keep...) &&
		numbers.Every(p.Ways, func(w api.WeekWay) bool {
			return numbers.Within(1, api.MaxEmptyWeeks, w.Weeks) && validWays(len(p.Keep), w.EmptyWay)
		}) &&
		numbers.Every(p.Weeks, func(ports []api.EmptyPort) bool { return validPorts(ports...) })
}

// check returns the error of the plan.
func (p plan) check() api.Errno {
	if !p.formed() {
		return api.ErrForm
	}
	if len(p.Weeks)*len(p.Keep) > api.MaxEmptyPorts || p.count() > api.MaxEmptyWays {
		return api.ErrLong
	}
	if !p.valid() {
		return api.ErrArg
	}
	return api.OK
}

// shift returns a way that leaves in a week and takes some weeks.
func (p plan) shift(week, weeks int, w api.EmptyWay) api.EmptyWay {
	w.From += week * len(p.Keep)
	w.To += (week + weeks) * len(p.Keep)
	return w
}

// leaving returns the ways of a net for the plan on which hulls leave in a week, or are kept.
func (p plan) leaving(week int) []api.EmptyWay {
	var ways []api.EmptyWay
	for port, cost := range p.Keep {
		stay := api.EmptyWay{From: port, To: port, Cost: cost, Room: api.MaxEmptyHulls}
		ways = append(ways, p.shift(week, 1, stay))
	}
	for _, w := range p.Ways {
		if p.arrives(week, w) {
			ways = append(ways, p.shift(week, w.Weeks, w.EmptyWay))
		}
	}
	return ways
}

// Expand returns the net of a plan over weeks.
func Expand(w api.EmptyWeeks) (api.EmptyNet, api.Errno) {
	p := plan{w}
	if e := p.check(); e != api.OK {
		return api.EmptyNet{}, e
	}
	n := api.EmptyNet{}
	for _, ports := range p.Weeks {
		n.Ports = append(n.Ports, ports...)
	}
	for week := range len(p.Weeks) - 1 {
		n.Ways = append(n.Ways, p.leaving(week)...)
	}
	return n, api.OK
}
