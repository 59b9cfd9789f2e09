package lock_test

import (
	"math"
	"slices"
	"testing"

	"thalweg/api"
	"thalweg/lock"
)

// span returns when a step begins and ends.
func span(start, end int) api.LockRun { return api.LockRun{Start: start, End: end} }

// P4.2 and examples 1 and 3: when the steps of a plan begin and end, what it costs, and its movements.
func TestRun(t *testing.T) {
	l := example()
	weighty := rising(30, 50)
	weighty.Weight = 100
	for name, c := range map[string]struct {
		l           api.Lock
		tows        []api.LockTow
		plan        []api.LockStep
		want        []api.LockRun
		cost, moves int
	}{
		"example 1":             {l, three(), steps(up(1), down(1), up(1)), []api.LockRun{span(0, 20), span(20, 40), span(40, 60)}, 140, 3},
		"example 1, second":     {l, three(), steps(up(2), down(1)), []api.LockRun{span(10, 30), span(30, 50)}, 140, 2},
		"example 3":             {l, []api.LockTow{sinking(0, 250)}, steps(down(1)), []api.LockRun{span(10, 90)}, 90, 6},
		"no tows":               {l, nil, nil, nil, 0, 0},
		"no tows, high":         {high(l), nil, nil, nil, 0, 0},
		"up from low":           {l, []api.LockTow{rising(0, 1)}, steps(up(1)), []api.LockRun{span(0, 20)}, 20, 1},
		"up from high":          {high(l), []api.LockTow{rising(0, 1)}, steps(up(1)), []api.LockRun{span(10, 30)}, 30, 2},
		"down from high":        {high(l), []api.LockTow{sinking(0, 1)}, steps(down(1)), []api.LockRun{span(0, 20)}, 20, 1},
		"turned before it came": {l, []api.LockTow{sinking(4, 1)}, steps(down(1)), []api.LockRun{span(10, 30)}, 26, 2},
		"comes as it is turned": {l, []api.LockTow{sinking(10, 1)}, steps(down(1)), []api.LockRun{span(10, 30)}, 20, 2},
		"turned long before":    {l, []api.LockTow{sinking(11, 1)}, steps(down(1)), []api.LockRun{span(11, 31)}, 20, 2},
		"waits for the tow":     {l, []api.LockTow{rising(7, 1)}, steps(up(1)), []api.LockRun{span(7, 27)}, 20, 1},
		"waits for all tows":    {l, []api.LockTow{rising(3, 1), rising(40, 1), rising(9, 1)}, steps(up(3)), []api.LockRun{span(40, 60)}, 57 + 51 + 20, 1},
		"weights":               {l, []api.LockTow{weighty, rising(0, 1)}, steps(up(2)), []api.LockRun{span(30, 50)}, 2000 + 50, 1},
		"no weight":             {l, light(rising(0, 1), sinking(0, 1)), steps(up(1), down(1)), []api.LockRun{span(0, 20), span(20, 40)}, 0, 2},
		"same way twice":        {l, []api.LockTow{rising(0, 1), rising(0, 1)}, steps(up(1), up(1)), []api.LockRun{span(0, 20), span(30, 50)}, 70, 3},
		"by their arrival":      {l, []api.LockTow{rising(25, 1), rising(5, 1)}, steps(up(1), up(1)), []api.LockRun{span(5, 25), span(35, 55)}, 20 + 30, 3},
		"equal arrival":         {l, []api.LockTow{rising(0, 110), rising(0, 90), rising(0, 10)}, steps(up(1), up(2)), []api.LockRun{span(0, 50), span(60, 80)}, 50 + 80 + 80, 5},
		"just fit":              {l, []api.LockTow{rising(0, 60), rising(0, 39), rising(0, 1)}, steps(up(3)), []api.LockRun{span(0, 20)}, 60, 1},
		"as long as chamber":    {l, []api.LockTow{rising(0, 100)}, steps(up(1)), []api.LockRun{span(0, 20)}, 20, 1},
		"just 2 parts":          {l, []api.LockTow{rising(0, 101)}, steps(up(1)), []api.LockRun{span(0, 50)}, 50, 3},
		"still 2 parts":         {l, []api.LockTow{rising(0, 200)}, steps(up(1)), []api.LockRun{span(0, 50)}, 50, 3},
		"just 3 parts":          {l, []api.LockTow{rising(0, 201)}, steps(up(1)), []api.LockRun{span(0, 80)}, 80, 5},
		"high after parts up":   {l, []api.LockTow{rising(0, 300), sinking(0, 1)}, steps(up(1), down(1)), []api.LockRun{span(0, 80), span(80, 100)}, 180, 6},
		"low after parts down":  {high(l), []api.LockTow{rising(0, 1), sinking(0, 150)}, steps(down(1), up(1)), []api.LockRun{span(0, 50), span(50, 70)}, 120, 4},
		"no time to turn":       {api.Lock{Length: 1, Cycle: 1}, []api.LockTow{sinking(0, 3), sinking(0, 1)}, steps(down(1), down(1)), []api.LockRun{span(0, 3), span(3, 4)}, 7, 8},
	} {
		runs, cost, moves, e := lock.Run(c.l, c.tows, c.plan)
		if !slices.Equal(runs, c.want) || cost != c.cost || moves != c.moves || e != api.OK {
			t.Errorf("%s: %v, cost %d, %d movements, error %d", name, runs, cost, moves, e)
		}
	}
}

// P4.2 and P4.3: the errors of a plan, in their order.
func TestErrorsOfPlans(t *testing.T) {
	l, tows := example(), three()
	wide := []api.LockTow{rising(0, 60), rising(0, 41), sinking(0, 101), sinking(0, 1)}
	for name, c := range map[string]struct {
		tows []api.LockTow
		plan []api.LockStep
		e    api.Errno
	}{
		"complete":                {tows, steps(down(1), up(2)), api.OK},
		"no tows":                 {nil, nil, api.OK},
		"no plan":                 {tows, nil, api.ErrForm},
		"empty plan":              {tows, steps(), api.ErrForm},
		"none goes down":          {tows, steps(up(2)), api.ErrForm},
		"none goes up":            {tows, steps(down(1)), api.ErrForm},
		"one too few":             {tows, steps(up(1), down(1)), api.ErrForm},
		"one too many":            {tows, steps(up(1), down(1), up(1), up(1)), api.ErrForm},
		"too many in a step":      {tows, steps(up(3), down(1)), api.ErrForm},
		"too many, too few":       {tows, steps(up(1), down(2)), api.ErrForm},
		"step for no tows":        {nil, steps(up(1)), api.ErrForm},
		"step without tows":       {tows, steps(up(2), down(1), up(0)), api.ErrForm},
		"empty step, no tows":     {nil, steps(up(0)), api.ErrForm},
		"empty step first":        {tows, steps(down(0), up(2), down(1)), api.ErrForm},
		"below 0":                 {tows, steps(up(3), down(1), up(-1)), api.ErrForm},
		"below 0 first":           {tows, steps(up(-1), up(3), down(1)), api.ErrForm},
		"sum beyond all integers": {tows, steps(up(math.MaxInt), up(math.MaxInt), up(4), down(1)), api.ErrForm},
		"least integer twice":     {tows, steps(up(math.MinInt), up(math.MinInt), up(2), down(1)), api.ErrForm},
		"long plan":               {tows, slices.Repeat(steps(up(1), down(1)), 1000), api.ErrForm},
		"fit":                     {wide, steps(up(1), up(1), down(1), down(1)), api.OK},
		"do not fit":              {wide, steps(up(2), down(1), down(1)), api.ErrFull},
		"too long with another":   {wide, steps(up(1), up(1), down(2)), api.ErrFull},
		"not complete, not fit":   {wide, steps(up(2), down(1)), api.ErrForm},
		"not fit, not complete":   {wide, steps(up(2), down(1), down(1), down(0)), api.ErrForm},
		"101 meters":              {[]api.LockTow{rising(0, 50), rising(0, 51)}, steps(up(2)), api.ErrFull},
		"100 meters":              {[]api.LockTow{rising(0, 50), rising(0, 50)}, steps(up(2)), api.OK},
		"first ones by arrival":   {[]api.LockTow{rising(9, 90), rising(5, 50), rising(7, 50)}, steps(up(2), up(1)), api.OK},
		"not by their indices":    {[]api.LockTow{rising(9, 50), rising(5, 50), rising(7, 90)}, steps(up(2), up(1)), api.ErrFull},
		"equal, by their indices": {[]api.LockTow{rising(5, 50), rising(5, 50), rising(5, 90)}, steps(up(2), up(1)), api.OK},
		"equal, other indices":    {[]api.LockTow{rising(5, 90), rising(5, 50), rising(5, 50)}, steps(up(2), up(1)), api.ErrFull},
	} {
		expect(t, name+": Run", run(l, c.tows, c.plan), c.e)
		expect(t, name+": Water", water(l, c.tows, c.plan), c.e)
	}
}

// wait is the tows that still wait in a lock that is followed minute by minute.
type wait struct {
	lock   api.Lock
	tows   []api.LockTow
	minute int
	moves  int
	stock  api.LockWater
}

// next takes the tow that is the next one to go up, or down.
func (w *wait) next(goesUp bool) api.LockTow {
	first := -1
	for i, x := range w.tows {
		if x.Up == goesUp && (first < 0 || x.Arrive < w.tows[first].Arrive) {
			first = i
		}
	}
	x := w.tows[first]
	w.tows = slices.Delete(slices.Clone(w.tows), first, first+1)
	return x
}

// move lets some minutes pass, after which the chamber is at the other level.
func (w *wait) move(minutes int) {
	for range minutes {
		w.minute++
	}
	w.moves++
	if w.lock.High {
		kept := w.lock.Fill * w.lock.Save / 100
		w.stock.Chamber -= w.lock.Fill
		w.stock.Basin = kept // the last filling has emptied the basins
		w.stock.Lower += w.lock.Fill - kept
	} else {
		from := w.lock.Fill
		for w.stock.Basin > 0 {
			w.stock.Basin--
			from--
		}
		w.stock.Upper -= from
		w.stock.Chamber += w.lock.Fill
	}
	w.lock.High = !w.lock.High
}

// step carries out a step; it returns when it begins and ends, and what it costs.
func (w *wait) step(x api.LockStep) (api.LockRun, int) {
	var tows []api.LockTow
	for range x.Tows {
		tows = append(tows, w.next(x.Up))
	}
	if w.lock.High == x.Up {
		w.move(w.lock.Turn)
	}
	for slices.ContainsFunc(tows, func(y api.LockTow) bool { return y.Arrive > w.minute }) {
		w.minute++
	}
	start, left := w.minute, tows[0].Length
	w.move(w.lock.Cycle)
	for left -= w.lock.Length; x.Tows == 1 && left > 0; left -= w.lock.Length {
		w.move(w.lock.Turn)
		w.move(w.lock.Cycle)
	}
	cost := 0
	for _, y := range tows {
		cost += y.Weight * (w.minute - y.Arrive)
		if y.Up {
			w.stock.Lower += y.Push
			w.stock.Upper -= y.Push
		} else {
			w.stock.Lower -= y.Push
			w.stock.Upper += y.Push
		}
	}
	return span(start, w.minute), cost
}

// P4.2 and P4.3: a plan that is followed minute by minute.
func TestRunMinuteByMinute(t *testing.T) {
	d := newDice(40)
	for range 1000 {
		l := d.lock()
		tows := d.tows(l, d.from(0, 8))
		plan := d.plan(t, l, tows)
		w, cost := wait{lock: l, tows: tows}, 0
		var want []api.LockRun
		for _, x := range plan {
			r, c := w.step(x)
			want, cost = append(want, r), cost+c
		}
		runs, got, moves, e := lock.Run(l, tows, plan)
		if !slices.Equal(runs, want) || got != cost || moves != w.moves || e != api.OK {
			t.Fatalf("%v, %v: %v, %d, %d, error %d; not %v, %d, %d", tows, plan, runs, got, moves, e, want, cost, w.moves)
		}
		if stock, e := lock.Water(l, tows, plan); stock != w.stock || e != api.OK {
			t.Fatalf("%v, %v: %v, error %d; not %v", tows, plan, stock, e, w.stock)
		}
	}
}
