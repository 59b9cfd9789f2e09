package freight

import (
	"cmp"
	"slices"

	"thalweg/api"
	"thalweg/numbers"
)

// call is a charter with what happened when the tow called at the quay.
type call struct {
	api.Charter
	free  []api.FreeTime
	facts []api.FreightMessage
}

// newCall returns the call of a charter by messages, if its laytime can be counted.
func newCall(c api.Charter, free []api.FreeTime, l []api.FreightMessage) (call, api.Errno) {
	if e := CheckCharter(c); e != api.OK {
		return call{}, e
	}
	if e := checkFree(free); e != api.OK {
		return call{}, e
	}
	facts, e := Facts(l)
	if e != api.OK {
		return call{}, e
	}
	if !numbers.Every(l, func(m api.FreightMessage) bool { return m.Charter == l[0].Charter }) {
		return call{}, api.ErrForm
	}
	quay := call{c, free, facts}
	return quay, quay.check()
}

// all returns the facts of some kinds.
func (c call) all(kinds ...api.FactKind) []api.FreightMessage {
	return slices.DeleteFunc(slices.Clone(c.facts), func(f api.FreightMessage) bool {
		return !slices.Contains(kinds, f.Kind)
	})
}

// turns returns the facts by which work begins, stops, goes on and ends.
func (c call) turns() []api.FreightMessage {
	return c.all(api.FactNotice, api.FactStop, api.FactResume, api.FactEnd)
}

// ordered reports whether work stops and goes on in turn, after the notice and before the end. If it never stops, the notice may even come after the end: then no laytime is counted.
func (c call) ordered() bool {
	turns := c.turns()
	for i, f := range turns {
		want := api.FactStop
		switch {
		case len(turns) == 2:
			want = f.Kind
		case i == 0:
			want = api.FactNotice
		case i == len(turns)-1:
			want = api.FactEnd
		case i%2 == 0:
			want = api.FactResume
		}
		if f.Kind != want {
			return false
		}
	}
	return true
}

// check returns the error of the facts.
func (c call) check() api.Errno {
	single := []api.FactKind{api.FactNotice, api.FactEnd, api.FactTons, api.FactLevel}
	if !numbers.Every(single, func(kind api.FactKind) bool { return len(c.all(kind)) <= 1 }) {
		return api.ErrTwice
	}
	if len(c.all(api.FactNotice, api.FactEnd)) < 2 {
		return api.ErrNone
	}
	if !c.ordered() {
		return api.ErrState
	}
	return api.OK
}

// pauses returns the minutes that are excepted, the first ones first.
func (c call) pauses() []api.FreeTime {
	list := slices.Clone(c.free)
	turns := c.turns()
	for stop := 1; stop+1 < len(turns); stop += 2 {
		list = append(list, api.FreeTime{From: turns[stop].Minute, To: turns[stop+1].Minute})
	}
	slices.SortFunc(list, func(a, b api.FreeTime) int { return cmp.Compare(a.From, b.From) })
	return list
}

// count counts the laytime. After the last minute that is used, no minute is excepted any more.
func (c call) count() api.LayCount {
	end := c.all(api.FactEnd)[0].Minute
	n := api.LayCount{Begin: c.all(api.FactNotice)[0].Minute + c.Notice}
	minute := n.Begin
	for _, p := range append(c.pauses(), api.FreeTime{From: end, To: end}) {
		work := min(max(0, min(p.From, end)-minute), c.Laytime-n.Used)
		minute += work
		n.Used += work
		if n.Used < c.Laytime {
			minute = max(minute, p.To)
		}
	}
	n.Over = max(0, end-minute)
	if n.Over == 0 {
		n.Saved = c.Laytime - n.Used
	}
	return n
}

// Laytime counts the laytime of a charter.
func Laytime(c api.Charter, free []api.FreeTime, l []api.FreightMessage) (api.LayCount, api.Errno) {
	quay, e := newCall(c, free, l)
	if e != api.OK {
		return api.LayCount{}, e
	}
	return quay.count(), api.OK
}
