package freight_test

import (
	"slices"
	"testing"

	"thalweg/api"
	"thalweg/freight"
)

// revised returns a message in another revision.
func revised(m api.FreightMessage, revision int) api.FreightMessage {
	m.Revision = revision
	return m
}

// counts reports whether a message of a list counts: no other one has the same charter and number, and a greater revision.
func counts(m api.FreightMessage, l []api.FreightMessage) bool {
	return !slices.ContainsFunc(l, func(other api.FreightMessage) bool {
		return other.Charter == m.Charter && other.Number == m.Number && other.Revision > m.Revision
	})
}

// factsOf returns the facts of messages by the words of the document: each charter, minute and number is looked for in turn.
func factsOf(l []api.FreightMessage, lastMinute int) []api.FreightMessage {
	var list []api.FreightMessage
	for charter := range api.MaxCharters {
		for minute := range lastMinute + 1 {
			for number := range api.MaxMessageNumber + 1 {
				i := slices.IndexFunc(l, func(m api.FreightMessage) bool {
					return m.Charter == charter && m.Minute == minute && m.Number == number && m.Kind != api.FactWithdrawn && counts(m, l)
				})
				if i >= 0 {
					list = append(list, l[i])
				}
			}
		}
	}
	return list
}

// P7.2: the fourth example: what comes in a greater revision counts, whatever arrives first.
func TestExampleOfFacts(t *testing.T) {
	first, second := message(5, api.FactStop, 500, 0), revised(message(5, api.FactStop, 520, 0), 1)
	for _, l := range [][]api.FreightMessage{{first, second}, {second, first}, {second, first, second, first}, {second}} {
		if got, e := freight.Facts(l); !slices.Equal(got, []api.FreightMessage{second}) || e != api.OK {
			t.Error(got, e)
		}
	}
}

// P7.2: what is withdrawn is no fact, unless a greater revision says so again; revisions may be left out.
func TestWithdrawn(t *testing.T) {
	stop, gone := message(5, api.FactStop, 500, 7), revised(message(5, api.FactWithdrawn, 20, 3), 4)
	again := revised(message(5, api.FactTons, 9, 30), 99)
	for name, x := range map[string]struct{ l, want []api.FreightMessage }{
		"withdrawn":            {[]api.FreightMessage{stop, gone}, nil},
		"withdrawn before":     {[]api.FreightMessage{gone, stop}, nil},
		"only withdrawn":       {[]api.FreightMessage{gone}, nil},
		"said again":           {[]api.FreightMessage{again, gone, stop}, []api.FreightMessage{again}},
		"withdrawn, elsewhere": {[]api.FreightMessage{stop, of(1, []api.FreightMessage{gone})[0]}, []api.FreightMessage{stop}},
		"nothing":              {nil, nil},
	} {
		if got, e := freight.Facts(x.l); !slices.Equal(got, x.want) || e != api.OK {
			t.Errorf("%s: %v, error %d", name, got, e)
		}
	}
}

// P7.2: facts are sorted by charter, then by minute, then by number.
func TestOrderOfFacts(t *testing.T) {
	want := []api.FreightMessage{
		message(9, api.FactEnd, 0, 0), message(3, api.FactStop, 5, 0), message(4, api.FactResume, 5, 0), message(1, api.FactNotice, 6, 0),
		{Charter: 1, Number: 2, Kind: api.FactNotice, Minute: 3}, {Charter: 1, Number: 0, Kind: api.FactNotice, Minute: 4},
		{Charter: 9, Number: 999, Revision: 99, Kind: api.FactLevel, Minute: 0, Value: 1000000},
	}
	d := newDice(72)
	for range 50 {
		if got, e := freight.Facts(d.shuffled(want)); !slices.Equal(got, want) || e != api.OK {
			t.Fatal(got, e)
		}
	}
}

// P7.2: Facts agrees with a search for each fact.
func TestFacts(t *testing.T) {
	d := newDice(73)
	for range 60 {
		var l []api.FreightMessage
		for range d.from(0, 40) {
			m := message(d.from(0, 5), api.FactKind(d.from(1, 7)), d.from(0, 9), d.from(0, 9))
			m.Charter, m.Revision = d.from(0, 3), d.from(0, 2)
			same := slices.IndexFunc(l, func(other api.FreightMessage) bool {
				return other.Charter == m.Charter && other.Number == m.Number && other.Revision == m.Revision
			})
			if same >= 0 {
				m = l[same]
			}
			l = append(l, m)
		}
		if got, e := freight.Facts(l); !slices.Equal(got, factsOf(l, 9)) || e != api.OK {
			t.Fatalf("%v: %v, error %d", l, got, e)
		}
	}
}
