package freight_test

import (
	"slices"
	"testing"

	"thalweg/api"
	"thalweg/freight"
)

// excepted reports whether a minute is excepted, by facts in their order that end with the end of work.
func excepted(minute int, free []api.FreeTime, facts []api.FreightMessage) bool {
	if slices.ContainsFunc(free, func(f api.FreeTime) bool { return f.From <= minute && minute < f.To }) {
		return true
	}
	stopped := false
	for _, f := range facts {
		if f.Minute <= minute && (f.Kind == api.FactStop || f.Kind == api.FactResume) {
			stopped = f.Kind == api.FactStop
		}
	}
	return stopped
}

// minuteOf returns the minute of the fact of a kind.
func minuteOf(kind api.FactKind, facts []api.FreightMessage) int {
	return facts[slices.IndexFunc(facts, func(f api.FreightMessage) bool { return f.Kind == kind })].Minute
}

// minuteByMinute counts laytime minute by minute.
func minuteByMinute(c api.Charter, free []api.FreeTime, facts []api.FreightMessage) api.LayCount {
	n := api.LayCount{Begin: minuteOf(api.FactNotice, facts) + c.Notice}
	for minute := n.Begin; minute < minuteOf(api.FactEnd, facts); minute++ {
		switch {
		case n.Used == c.Laytime:
			n.Over++
		case !excepted(minute, free, facts):
			n.Used++
		}
	}
	if n.Over == 0 {
		n.Saved = c.Laytime - n.Used
	}
	return n
}

// P7.4: the second example.
func TestExampleOfLaytime(t *testing.T) {
	for end, want := range map[int]api.LayCount{
		3000: {Begin: 360, Used: 1440, Over: 700},
		2000: {Begin: 360, Used: 1140, Saved: 300},
	} {
		l := messages()
		l[3].Minute = end
		if n, e := freight.Laytime(charter(), holiday(), l); n != want || e != api.OK {
			t.Errorf("%v, error %d", n, e)
		}
	}
}

// lay is a short case of laytime: messages are given by their kinds and minutes, numbered in their order.
type lay struct {
	laytime, notice int
	free            []api.FreeTime
	kinds           []api.FactKind
	minutes         []int
	want            api.LayCount
}

// messages returns the messages of a case.
func (x lay) messages() []api.FreightMessage {
	var l []api.FreightMessage
	for i, kind := range x.kinds {
		l = append(l, message(i, kind, x.minutes[i], 0))
	}
	return l
}

// The facts of the cases.
const (
	notice = api.FactNotice
	stop   = api.FactStop
	resume = api.FactResume
	end    = api.FactEnd
)

// P7.4: the edges of what is used, over and saved.
func TestEdgesOfLaytime(t *testing.T) {
	plain, stops := []api.FactKind{notice, end}, []api.FactKind{notice, stop, resume, end}
	long := []api.FreeTime{{From: 0, To: 100000}}
	for name, x := range map[string]lay{
		"all is used":                   {20, 5, nil, plain, []int{5, 30}, api.LayCount{Begin: 10, Used: 20}},
		"one minute over":               {20, 5, nil, plain, []int{5, 31}, api.LayCount{Begin: 10, Used: 20, Over: 1}},
		"one minute saved":              {20, 5, nil, plain, []int{5, 29}, api.LayCount{Begin: 10, Used: 19, Saved: 1}},
		"no laytime":                    {0, 5, nil, plain, []int{5, 30}, api.LayCount{Begin: 10, Over: 20}},
		"no laytime, a holiday":         {0, 5, long, plain, []int{5, 30}, api.LayCount{Begin: 10, Over: 20}},
		"no laytime, no work":           {0, 5, nil, plain, []int{5, 10}, api.LayCount{Begin: 10}},
		"work ends at the beginning":    {20, 5, nil, plain, []int{5, 10}, api.LayCount{Begin: 10, Saved: 20}},
		"work ends before it":           {20, 5, nil, plain, []int{5, 6}, api.LayCount{Begin: 10, Saved: 20}},
		"work ends long before it":      {20, 100000, nil, plain, []int{100000, 100000}, api.LayCount{Begin: 200000, Saved: 20}},
		"work ends before the notice":   {20, 5, nil, []api.FactKind{end, notice}, []int{3, 8}, api.LayCount{Begin: 13, Saved: 20}},
		"all is free":                   {20, 5, long, plain, []int{5, 90000}, api.LayCount{Begin: 10, Saved: 20}},
		"free before the beginning":     {20, 5, []api.FreeTime{{From: 0, To: 10}}, plain, []int{5, 25}, api.LayCount{Begin: 10, Used: 15, Saved: 5}},
		"free from the end on":          {20, 5, []api.FreeTime{{From: 25, To: 99}}, plain, []int{5, 25}, api.LayCount{Begin: 10, Used: 15, Saved: 5}},
		"free for no minute":            {20, 5, []api.FreeTime{{From: 12, To: 12}}, plain, []int{5, 25}, api.LayCount{Begin: 10, Used: 15, Saved: 5}},
		"free times, one in the other":  {20, 5, []api.FreeTime{{From: 13, To: 15}, {From: 11, To: 18}}, plain, []int{5, 35}, api.LayCount{Begin: 10, Used: 18, Saved: 2}},
		"free times that overlap":       {20, 5, []api.FreeTime{{From: 13, To: 20}, {From: 11, To: 18}, {From: 20, To: 21}}, plain, []int{5, 35}, api.LayCount{Begin: 10, Used: 15, Saved: 5}},
		"a holiday after the last":      {20, 5, []api.FreeTime{{From: 30, To: 40}}, plain, []int{5, 45}, api.LayCount{Begin: 10, Used: 20, Over: 15}},
		"a holiday before the last":     {20, 5, []api.FreeTime{{From: 29, To: 40}}, plain, []int{5, 45}, api.LayCount{Begin: 10, Used: 20, Over: 4}},
		"a stop":                        {20, 5, nil, stops, []int{5, 12, 15, 25}, api.LayCount{Begin: 10, Used: 12, Saved: 8}},
		"a stop of no minute":           {20, 5, nil, stops, []int{5, 12, 12, 25}, api.LayCount{Begin: 10, Used: 15, Saved: 5}},
		"a stop before the beginning":   {20, 5, nil, stops, []int{5, 5, 13, 25}, api.LayCount{Begin: 10, Used: 12, Saved: 8}},
		"a stop that is over before it": {20, 5, nil, stops, []int{5, 6, 8, 25}, api.LayCount{Begin: 10, Used: 15, Saved: 5}},
		"a stop to the end":             {20, 5, nil, []api.FactKind{notice, stop, end}, []int{5, 12, 99}, api.LayCount{Begin: 10, Used: 2, Saved: 18}},
		"a stop when it is over":        {20, 5, nil, []api.FactKind{notice, stop, end}, []int{5, 30, 99}, api.LayCount{Begin: 10, Used: 20, Over: 69}},
		"a stop and a holiday":          {20, 5, []api.FreeTime{{From: 14, To: 18}}, stops, []int{5, 12, 15, 25}, api.LayCount{Begin: 10, Used: 9, Saved: 11}},
		"two stops":                     {20, 5, nil, []api.FactKind{notice, stop, resume, stop, resume, end}, []int{5, 12, 15, 15, 16, 25}, api.LayCount{Begin: 10, Used: 11, Saved: 9}},
		"all at once":                   {20, 0, nil, stops, []int{5, 5, 5, 5}, api.LayCount{Begin: 5, Saved: 20}},
	} {
		n, e := freight.Laytime(api.Charter{Laytime: x.laytime, Notice: x.notice}, x.free, x.messages())
		if n != x.want || e != api.OK {
			t.Errorf("%s: %v, not %v; error %d", name, n, x.want, e)
		}
	}
}

// P7.4: the order in which the facts must come. What happens in the same minute is ordered by number.
func TestOrderOfTurns(t *testing.T) {
	for name, x := range map[string]struct {
		kinds   []api.FactKind
		minutes []int
		e       api.Errno
	}{
		"in order":               {[]api.FactKind{notice, stop, resume, end}, []int{1, 2, 3, 4}, api.OK},
		"in the same minute":     {[]api.FactKind{notice, stop, resume, stop, end}, []int{1, 1, 1, 1, 1}, api.OK},
		"arriving in reverse":    {[]api.FactKind{end, stop, resume, stop, notice}, []int{5, 4, 3, 2, 1}, api.OK},
		"stop before notice":     {[]api.FactKind{notice, stop, resume, end}, []int{3, 2, 4, 5}, api.ErrState},
		"both before notice":     {[]api.FactKind{notice, stop, resume, end}, []int{4, 2, 3, 5}, api.ErrState},
		"numbered before notice": {[]api.FactKind{stop, notice, end}, []int{3, 3, 5}, api.ErrState},
		"stop after end":         {[]api.FactKind{notice, stop, end}, []int{1, 6, 5}, api.ErrState},
		"numbered after end":     {[]api.FactKind{notice, end, stop}, []int{1, 5, 5}, api.ErrState},
		"resume after end":       {[]api.FactKind{notice, stop, resume, end}, []int{1, 4, 6, 5}, api.ErrState},
		"both after end":         {[]api.FactKind{notice, stop, resume, end}, []int{1, 7, 8, 5}, api.ErrState},
		"between end and notice": {[]api.FactKind{end, stop, resume, notice}, []int{1, 2, 3, 5}, api.ErrState},
		"resume first":           {[]api.FactKind{notice, resume, end}, []int{1, 2, 3}, api.ErrState},
		"resume before stop":     {[]api.FactKind{notice, resume, stop, end}, []int{1, 2, 3, 4}, api.ErrState},
		"two stops":              {[]api.FactKind{notice, stop, stop, end}, []int{1, 2, 3, 4}, api.ErrState},
		"two resumes":            {[]api.FactKind{notice, stop, resume, resume, end}, []int{1, 2, 3, 4, 5}, api.ErrState},
		"two stops, two resumes": {[]api.FactKind{notice, stop, stop, resume, resume, end}, []int{1, 2, 3, 4, 5, 6}, api.ErrState},
		"end before notice":      {[]api.FactKind{end, notice}, []int{1, 2}, api.OK},
		"tons and levels":        {[]api.FactKind{api.FactTons, notice, stop, api.FactLevel, resume, end}, []int{0, 1, 2, 2, 3, 4}, api.OK},
		"tons and levels apart":  {[]api.FactKind{api.FactLevel, notice, stop, resume, end, api.FactTons}, []int{0, 1, 2, 3, 4, 9}, api.OK},
		"only between, no stops": {[]api.FactKind{notice, api.FactLevel, api.FactTons, end}, []int{1, 2, 3, 4}, api.OK},
	} {
		l := lay{kinds: x.kinds, minutes: x.minutes}.messages()
		expect(t, name, laytime(api.Charter{}, nil, l), x.e)
	}
}

// P7.4: of any two to six facts, just those in the right order have no ErrState.
func TestAllOrders(t *testing.T) {
	right := [][]api.FactKind{
		{notice, end}, {end, notice}, {notice, stop, end}, {notice, stop, resume, end},
		{notice, stop, resume, stop, end}, {notice, stop, resume, stop, resume, end},
	}
	for length := 2; length <= 6; length++ {
		for code := range 1 << (2 * length) {
			x := lay{}
			for i := range length {
				x.kinds = append(x.kinds, notice+api.FactKind(code>>(2*i)&3))
				x.minutes = append(x.minutes, 10*i)
			}
			is := func(kind api.FactKind) bool { return slices.Contains(x.kinds, kind) }
			twice := func(kind api.FactKind) bool {
				return is(kind) && slices.Contains(x.kinds[slices.Index(x.kinds, kind)+1:], kind)
			}
			want := api.ErrState
			switch {
			case twice(notice) || twice(end):
				want = api.ErrTwice
			case !is(notice) || !is(end):
				want = api.ErrNone
			case slices.ContainsFunc(right, func(l []api.FactKind) bool { return slices.Equal(l, x.kinds) }):
				want = api.OK
			}
			expect(t, "an order", laytime(api.Charter{}, nil, x.messages()), want)
		}
	}
}

// P7.4: Laytime agrees with a count minute by minute.
func TestLaytime(t *testing.T) {
	d, over := newDice(74), 0
	for range 3000 {
		c, free, l := d.charter(), d.free(d.from(0, 4)), d.work(d.from(0, 9))
		facts, e := freight.Facts(l)
		if e != api.OK {
			t.Fatal(l, e)
		}
		want := minuteByMinute(c, free, facts)
		if n, e := freight.Laytime(c, free, l); n != want || e != api.OK {
			t.Fatalf("%v, %v, %v: %v, not %v; error %d", c, free, facts, n, want, e)
		}
		if want.Over > 0 {
			over++
		}
	}
	if over < 500 || over > 2500 {
		t.Errorf("%d cases with minutes over", over)
	}
}
