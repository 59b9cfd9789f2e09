package empties_test

import (
	"slices"
	"testing"

	"thalweg/api"
	"thalweg/empties"
)

// P6.1: a net is invalid if anything in it is outside of its range; then all functions return ErrArg, before any other error.
func TestInvalidNets(t *testing.T) {
	for name, change := range map[string]func(n *api.EmptyNet){
		"no ports":          func(n *api.EmptyNet) { *n = api.EmptyNet{} },
		"ways, no ports":    func(n *api.EmptyNet) { n.Ports = nil },
		"61 ports":          func(n *api.EmptyNet) { n.Ports = make([]api.EmptyPort, 61) },
		"301 ways":          func(n *api.EmptyNet) { n.Ways = slices.Repeat(ways(way(0, 1, 0, 9)), 301) },
		"has -1":            func(n *api.EmptyNet) { n.Ports[0].Has = -1 },
		"has 1001":          func(n *api.EmptyNet) { n.Ports[2].Has = 1001 },
		"wants -1":          func(n *api.EmptyNet) { n.Ports[2].Wants = -1 },
		"wants 1001":        func(n *api.EmptyNet) { n.Ports[1].Wants = 1001 },
		"from -1":           func(n *api.EmptyNet) { n.Ways[0].From = -1 },
		"from 3":            func(n *api.EmptyNet) { n.Ways[2].From = 3 },
		"to -1":             func(n *api.EmptyNet) { n.Ways[0].To = -1 },
		"to 3":              func(n *api.EmptyNet) { n.Ways[1].To = 3 },
		"from where it was": func(n *api.EmptyNet) { n.Ways[1].To = 1 },
		"cost -1":           func(n *api.EmptyNet) { n.Ways[0].Cost = -1 },
		"cost 1000001":      func(n *api.EmptyNet) { n.Ways[2].Cost = 1000001 },
		"room -1":           func(n *api.EmptyNet) { n.Ways[2].Room = -1 },
		"room 1001":         func(n *api.EmptyNet) { n.Ways[0].Room = 1001 },
	} {
		expectInvalid(t, name, changed(change))
	}
}

// P6.1: the least and the greatest values of a net are valid.
func TestValidNets(t *testing.T) {
	many := api.EmptyNet{Ports: slices.Repeat(ports(port(1000, 1000)), 60)}
	for i := range 300 {
		many.Ways = append(many.Ways, way(i%60, (i+1)%60, 1000000, 1000))
	}
	for name, n := range map[string]api.EmptyNet{
		"the examples":       example(),
		"one port":           {Ports: make([]api.EmptyPort, 1)},
		"no room":            changed(func(n *api.EmptyNet) { n.Ways[2] = way(2, 0, 0, 0) }),
		"the same way twice": changed(func(n *api.EmptyNet) { n.Ways[2] = n.Ways[0] }),
		"the greatest":       many,
	} {
		if e := empties.Check(n); e != api.OK {
			t.Errorf("%s: error %d", name, e)
		}
		expect(t, name+": Move", move(n), api.OK)
		expect(t, name+": Lacks", lacks(n), api.OK)
	}
}

// P6.1: ErrForm unless there is one integer for each way, ErrRange unless there is room for each, ErrState unless they are possible; Proves has the same errors first.
func TestErrorsOfMoves(t *testing.T) {
	for name, x := range map[string]struct {
		moves []int
		e     api.Errno
	}{
		"no moves":                {nil, api.ErrForm},
		"two moves":               {[]int{3, 4}, api.ErrForm},
		"four moves":              {[]int{3, 4, 0, 0}, api.ErrForm},
		"four, one out of range":  {[]int{3, -4, 0, 0}, api.ErrForm},
		"a move of -1":            {[]int{3, 4, -1}, api.ErrRange},
		"a move above its room":   {[]int{4, 4, 0}, api.ErrRange},
		"the last above its room": {[]int{3, 4, 10}, api.ErrRange},
		"too many, not possible":  {[]int{0, 0, 10}, api.ErrRange},
		"too few come":            {[]int{3, 3, 0}, api.ErrState},
		"too many go on":          {[]int{0, 4, 0}, api.ErrState},
		"too many go":             {[]int{3, 4, 3}, api.ErrState},
		"nothing moves":           {[]int{0, 0, 0}, api.ErrState},
		"as much as is wanted":    {[]int{3, 4, 0}, api.OK},
		"all that there are":      {[]int{3, 4, 2}, api.OK},
		"as much as there is":     {[]int{0, 1, 5}, api.OK},
	} {
		expect(t, name+": Cost", cost(example(), x.moves...), x.e)
		wrong := []int{-1, 0}
		if x.e == api.OK {
			wrong = []int{0, 0, 0}
		}
		expect(t, name+": Proves", proves(example(), x.moves, wrong), x.e)
	}
}

// P6.2: ErrForm unless there is one price for each port, ErrRange unless all prices are from 0 to 10^9; Proves has these errors last.
func TestErrorsOfPrices(t *testing.T) {
	for name, x := range map[string]struct {
		prices []int
		e      api.Errno
	}{
		"no prices":              {nil, api.ErrForm},
		"two prices":             {[]int{0, 0}, api.ErrForm},
		"four prices":            {[]int{0, 0, 0, 0}, api.ErrForm},
		"four, one out of range": {[]int{0, 0, -1, 0}, api.ErrForm},
		"a price of -1":          {[]int{0, 0, -1}, api.ErrRange},
		"the first is too great": {[]int{1000000001, 0, 0}, api.ErrRange},
		"the last is too great":  {[]int{0, 0, 1000000001}, api.ErrRange},
		"the greatest ones":      {[]int{1000000000, 1000000000, 1000000000}, api.OK},
		"the least ones":         {[]int{0, 0, 0}, api.OK},
	} {
		expect(t, name+": Bound", bound(example(), x.prices...), x.e)
		expect(t, name+": Proves", proves(example(), []int{3, 4, 0}, x.prices), x.e)
	}
}

// P6.3: ErrNone if no moves are possible.
func TestErrorOfMove(t *testing.T) {
	for name, x := range map[string]struct {
		change func(n *api.EmptyNet)
		e      api.Errno
	}{
		"9 are wanted, 7 are there": {func(n *api.EmptyNet) { n.Ports[2].Wants = 8 }, api.ErrNone},
		"as many as there are":      {func(n *api.EmptyNet) { n.Ports[2].Wants = 6 }, api.OK},
		"one more":                  {func(n *api.EmptyNet) { n.Ports[2].Wants = 7 }, api.ErrNone},
		"no way":                    {func(n *api.EmptyNet) { n.Ways = nil }, api.ErrNone},
		"ways away only":            {func(n *api.EmptyNet) { n.Ways = ways(way(2, 1, 0, 9), way(2, 0, 0, 9)) }, api.ErrNone},
		"just enough room":          {func(n *api.EmptyNet) { n.Ways = ways(way(0, 2, 7, 4)) }, api.OK},
		"too little room":           {func(n *api.EmptyNet) { n.Ways = ways(way(0, 2, 7, 3)) }, api.ErrNone},
		"enough by two ways":        {func(n *api.EmptyNet) { n.Ways = ways(way(0, 2, 7, 3), way(1, 2, 7, 1)) }, api.OK},
		"a port that must keep one": {func(n *api.EmptyNet) { n.Ways = ways(way(0, 2, 7, 2), way(1, 2, 7, 2)) }, api.ErrNone},
	} {
		expect(t, name, move(changed(x.change)), x.e)
	}
}

// P6.5: ErrNone unless there is the port, then ErrFull if it has 1000 hulls, then ErrState if no moves are possible without another one.
func TestErrorsOfMore(t *testing.T) {
	full := changed(func(n *api.EmptyNet) { n.Ports[0].Has = 1000 })
	short := changed(func(n *api.EmptyNet) { n.Ports[2].Wants = 7 })
	both := changed(func(n *api.EmptyNet) { n.Ports[1], n.Ways = port(1000, 0), nil })
	for name, x := range map[string]struct {
		net  api.EmptyNet
		port int
		e    api.Errno
	}{
		"port -1":                  {example(), -1, api.ErrNone},
		"port 3":                   {example(), 3, api.ErrNone},
		"port 3, too few hulls":    {short, 3, api.ErrNone},
		"port -1, 1000 hulls":      {full, -1, api.ErrNone},
		"1000 hulls":               {full, 0, api.ErrFull},
		"1000 hulls elsewhere":     {full, 2, api.OK},
		"1000 hulls, not possible": {both, 1, api.ErrFull},
		"not possible":             {both, 0, api.ErrState},
		"possible with it only":    {short, 2, api.ErrState},
		"999 hulls":                {changed(func(n *api.EmptyNet) { n.Ports[0].Has = 999 }), 0, api.OK},
		"the first one":            {example(), 0, api.OK},
		"the last one":             {example(), 2, api.OK},
	} {
		expect(t, name, more(x.net, x.port), x.e)
	}
}
