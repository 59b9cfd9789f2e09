package empties_test

import (
	"math"
	"reflect"
	"slices"
	"testing"

	"thalweg/api"
	"thalweg/empties"
)

// takes returns a way that takes some weeks.
func takes(weeks int, w api.EmptyWay) api.WeekWay { return api.WeekWay{EmptyWay: w, Weeks: weeks} }

// plan returns a plan over two weeks, with two ports and a way.
func plan() api.EmptyWeeks {
	return api.EmptyWeeks{
		Weeks: [][]api.EmptyPort{ports(port(3, 0), port(0, 1)), ports(port(0, 2), port(1, 2))},
		Ways:  []api.WeekWay{takes(1, way(0, 1, 30, 4))},
		Keep:  []int{5, 7},
	}
}

// weeksOf returns a plan over empty weeks in some ports, with the same way many times.
func weeksOf(weeks, ports, ways int, w api.WeekWay) api.EmptyWeeks {
	return api.EmptyWeeks{
		Weeks: slices.Repeat([][]api.EmptyPort{make([]api.EmptyPort, ports)}, weeks),
		Ways:  slices.Repeat([]api.WeekWay{w}, ways),
		Keep:  make([]int, ports),
	}
}

// P6.6: the example, and one with ways that take longer.
func TestExpand(t *testing.T) {
	longer := api.EmptyWeeks{
		Weeks: [][]api.EmptyPort{
			ports(port(1, 2), port(3, 4), port(5, 6)), ports(port(7, 8), port(9, 10), port(11, 12)),
			ports(port(13, 14), port(15, 16), port(17, 18)), ports(port(19, 20), port(21, 22), port(23, 24)),
		},
		Ways: []api.WeekWay{takes(2, way(2, 0, 50, 6)), takes(1, way(0, 1, 60, 7)), takes(4, way(1, 0, 9, 9)), takes(3, way(1, 2, 70, 8))},
		Keep: []int{1, 2, 3},
	}
	for name, x := range map[string]struct {
		plan api.EmptyWeeks
		want api.EmptyNet
	}{
		"the example": {plan(), api.EmptyNet{
			Ports: ports(port(3, 0), port(0, 1), port(0, 2), port(1, 2)),
			Ways:  ways(way(0, 2, 5, 1000), way(1, 3, 7, 1000), way(0, 3, 30, 4)),
		}},
		"longer ways": {longer, api.EmptyNet{
			Ports: ports(
				port(1, 2), port(3, 4), port(5, 6), port(7, 8), port(9, 10), port(11, 12),
				port(13, 14), port(15, 16), port(17, 18), port(19, 20), port(21, 22), port(23, 24),
			),
			Ways: ways(
				way(0, 3, 1, 1000), way(1, 4, 2, 1000), way(2, 5, 3, 1000), way(2, 6, 50, 6), way(0, 4, 60, 7), way(1, 11, 70, 8),
				way(3, 6, 1, 1000), way(4, 7, 2, 1000), way(5, 8, 3, 1000), way(5, 9, 50, 6), way(3, 7, 60, 7),
				way(6, 9, 1, 1000), way(7, 10, 2, 1000), way(8, 11, 3, 1000), way(6, 10, 60, 7),
			),
		}},
		"one week": {
			api.EmptyWeeks{Weeks: [][]api.EmptyPort{ports(port(4, 4))}, Keep: []int{9}},
			api.EmptyNet{Ports: ports(port(4, 4))},
		},
	} {
		if n, e := empties.Expand(x.plan); !reflect.DeepEqual(n, x.want) || e != api.OK {
			t.Errorf("%s: %v, error %d", name, n, e)
		}
	}
}

// netOf returns the net that P6.6 describes for a valid plan: a way for each week and each thing that a hull can do.
func netOf(w api.EmptyWeeks) api.EmptyNet {
	n, p := api.EmptyNet{}, len(w.Keep)
	for k, week := range w.Weeks {
		n.Ports = append(n.Ports, week...)
		for i := 0; i < p && k+1 < len(w.Weeks); i++ {
			n.Ways = append(n.Ways, way(k*p+i, k*p+p+i, w.Keep[i], 1000))
		}
		for _, x := range w.Ways {
			if arrival := k + x.Weeks; arrival < len(w.Weeks) {
				n.Ways = append(n.Ways, way(k*p+x.From, arrival*p+x.To, x.Cost, x.Room))
			}
		}
	}
	return n
}

// P6.6: Expand returns a valid net with the ports and ways of all weeks.
func TestExpandAnyPlan(t *testing.T) {
	d := newDice(8)
	for range 3000 {
		w := d.weeks(d.from(1, 12), d.from(1, 5), d.from(0, 12))
		n, e := empties.Expand(w)
		if !reflect.DeepEqual(n, netOf(w)) || e != api.OK || empties.Check(n) != api.OK {
			t.Fatalf("%v: %v, error %d", w, n, e)
		}
	}
}

// P6.6: the errors of Expand, and what is just allowed.
func TestErrorsOfExpand(t *testing.T) {
	bad := takes(1, way(0, 1, -1, 0))
	for name, x := range map[string]struct {
		change func(w *api.EmptyWeeks)
		e      api.Errno
	}{
		"the example":              {func(w *api.EmptyWeeks) {}, api.OK},
		"no weeks":                 {func(w *api.EmptyWeeks) { w.Weeks = nil }, api.ErrForm},
		"nothing":                  {func(w *api.EmptyWeeks) { *w = api.EmptyWeeks{} }, api.ErrForm},
		"12 weeks":                 {func(w *api.EmptyWeeks) { *w = weeksOf(12, 5, 1, takes(1, way(0, 1, 0, 0))) }, api.OK},
		"13 weeks":                 {func(w *api.EmptyWeeks) { *w = weeksOf(13, 4, 1, takes(1, way(0, 1, 0, 0))) }, api.ErrForm},
		"no ports":                 {func(w *api.EmptyWeeks) { *w = weeksOf(2, 0, 0, bad) }, api.ErrForm},
		"a week with a port less":  {func(w *api.EmptyWeeks) { w.Weeks[1] = ports(port(0, 0)) }, api.ErrForm},
		"a week with a port more":  {func(w *api.EmptyWeeks) { w.Weeks[0] = append(w.Weeks[0], port(0, 0)) }, api.ErrForm},
		"a week without ports":     {func(w *api.EmptyWeeks) { w.Weeks[1] = nil }, api.ErrForm},
		"nothing kept":             {func(w *api.EmptyWeeks) { w.Keep = nil }, api.ErrForm},
		"three kept":               {func(w *api.EmptyWeeks) { w.Keep = []int{1, 2, 3} }, api.ErrForm},
		"13 weeks, too many ports": {func(w *api.EmptyWeeks) { *w = weeksOf(13, 61, 400, bad) }, api.ErrForm},
		"form and an invalid port": {func(w *api.EmptyWeeks) { w.Keep, w.Weeks[0][0] = nil, port(-1, 0) }, api.ErrForm},

		"60 ports":                  {func(w *api.EmptyWeeks) { *w = weeksOf(1, 60, 0, bad) }, api.OK},
		"61 ports":                  {func(w *api.EmptyWeeks) { *w = weeksOf(1, 61, 0, bad) }, api.ErrLong},
		"2 weeks of 30":             {func(w *api.EmptyWeeks) { *w = weeksOf(2, 30, 0, bad) }, api.OK},
		"2 weeks of 31":             {func(w *api.EmptyWeeks) { *w = weeksOf(2, 31, 0, bad) }, api.ErrLong},
		"12 weeks of 6":             {func(w *api.EmptyWeeks) { *w = weeksOf(12, 6, 1, bad) }, api.ErrLong},
		"2 + 298 ways":              {func(w *api.EmptyWeeks) { *w = weeksOf(2, 2, 298, takes(1, way(0, 1, 0, 0))) }, api.OK},
		"2 + 299 ways":              {func(w *api.EmptyWeeks) { *w = weeksOf(2, 2, 299, takes(1, way(0, 1, 0, 0))) }, api.ErrLong},
		"2 + 299 invalid ways":      {func(w *api.EmptyWeeks) { *w = weeksOf(2, 2, 299, bad) }, api.ErrLong},
		"many ways, one week":       {func(w *api.EmptyWeeks) { *w = weeksOf(1, 2, 1000, takes(1, way(0, 1, 0, 0))) }, api.OK},
		"many that do not arrive":   {func(w *api.EmptyWeeks) { *w = weeksOf(3, 2, 1000, takes(3, way(0, 1, 0, 0))) }, api.OK},
		"6 + 3 * 98 ways":           {func(w *api.EmptyWeeks) { *w = weeksOf(4, 2, 98, takes(1, way(0, 1, 0, 0))) }, api.OK},
		"6 + 3 * 99 ways":           {func(w *api.EmptyWeeks) { *w = weeksOf(4, 2, 99, takes(1, way(0, 1, 0, 0))) }, api.ErrLong},
		"6 + 147 * 2 ways":          {func(w *api.EmptyWeeks) { *w = weeksOf(4, 2, 147, takes(2, way(0, 1, 0, 0))) }, api.OK},
		"6 + 148 * 2 ways":          {func(w *api.EmptyWeeks) { *w = weeksOf(4, 2, 148, takes(2, way(0, 1, 0, 0))) }, api.ErrLong},
		"many invalid, one week":    {func(w *api.EmptyWeeks) { *w = weeksOf(1, 2, 1000, bad) }, api.ErrArg},
		"many that take 13 weeks":   {func(w *api.EmptyWeeks) { *w = weeksOf(12, 2, 1000, takes(13, way(0, 1, 0, 0))) }, api.ErrArg},
		"many that take no week":    {func(w *api.EmptyWeeks) { *w = weeksOf(2, 2, 299, takes(0, way(0, 1, 0, 0))) }, api.ErrLong},
		"many that take very long":  {func(w *api.EmptyWeeks) { *w = weeksOf(12, 2, 1000, takes(math.MaxInt, way(0, 1, 0, 0))) }, api.ErrArg},
		"many that go back forever": {func(w *api.EmptyWeeks) { *w = weeksOf(12, 2, 1000, takes(math.MinInt, way(0, 1, 0, 0))) }, api.ErrArg},

		"keep -1":            {func(w *api.EmptyWeeks) { w.Keep[1] = -1 }, api.ErrArg},
		"keep 0 and 1000000": {func(w *api.EmptyWeeks) { w.Keep = []int{0, 1000000} }, api.OK},
		"keep 1000001":       {func(w *api.EmptyWeeks) { w.Keep[0] = 1000001 }, api.ErrArg},
		"a way of no weeks":  {func(w *api.EmptyWeeks) { w.Ways[0].Weeks = 0 }, api.ErrArg},
		"a way of -1 weeks":  {func(w *api.EmptyWeeks) { w.Ways[0].Weeks = -1 }, api.ErrArg},
		"a way of 12 weeks":  {func(w *api.EmptyWeeks) { w.Ways[0].Weeks = 12 }, api.OK},
		"a way of 13 weeks":  {func(w *api.EmptyWeeks) { w.Ways[0].Weeks = 13 }, api.ErrArg},
		"from -1":            {func(w *api.EmptyWeeks) { w.Ways[0].From = -1 }, api.ErrArg},
		"from 2":             {func(w *api.EmptyWeeks) { w.Ways[0].From = 2 }, api.ErrArg},
		"to -1":              {func(w *api.EmptyWeeks) { w.Ways[0].To = -1 }, api.ErrArg},
		"to 2":               {func(w *api.EmptyWeeks) { w.Ways[0].To = 2 }, api.ErrArg},
		"to where it was":    {func(w *api.EmptyWeeks) { w.Ways[0].To = 0 }, api.ErrArg},
		"cost -1":            {func(w *api.EmptyWeeks) { w.Ways[0].Cost = -1 }, api.ErrArg},
		"cost 1000000":       {func(w *api.EmptyWeeks) { w.Ways[0].Cost = 1000000 }, api.OK},
		"cost 1000001":       {func(w *api.EmptyWeeks) { w.Ways[0].Cost = 1000001 }, api.ErrArg},
		"room -1":            {func(w *api.EmptyWeeks) { w.Ways[0].Room = -1 }, api.ErrArg},
		"room 1000":          {func(w *api.EmptyWeeks) { w.Ways[0].Room = 1000 }, api.OK},
		"room 1001":          {func(w *api.EmptyWeeks) { w.Ways[0].Room = 1001 }, api.ErrArg},
		"an unused way":      {func(w *api.EmptyWeeks) { w.Ways[0] = takes(9, way(0, 1, 0, 1001)) }, api.ErrArg},
		"has -1":             {func(w *api.EmptyWeeks) { w.Weeks[1][0].Has = -1 }, api.ErrArg},
		"has 1001":           {func(w *api.EmptyWeeks) { w.Weeks[0][1].Has = 1001 }, api.ErrArg},
		"wants -1":           {func(w *api.EmptyWeeks) { w.Weeks[0][0].Wants = -1 }, api.ErrArg},
		"wants 1001":         {func(w *api.EmptyWeeks) { w.Weeks[1][1].Wants = 1001 }, api.ErrArg},
		"1000 and 1000":      {func(w *api.EmptyWeeks) { w.Weeks[1][1] = port(1000, 1000) }, api.OK},
	} {
		w := plan()
		x.change(&w)
		expect(t, name, expand(w), x.e)
	}
}
