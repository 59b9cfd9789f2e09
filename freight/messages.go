package freight

import (
	"cmp"
	"slices"

	"thalweg/api"
)

// key tells which fact a message is about.
type key struct {
	charter, number int
}

// edition is one of the messages about a fact.
type edition struct {
	key
	revision int
}

// editionOf returns which edition a message is.
func editionOf(m api.FreightMessage) edition {
	e := edition{revision: m.Revision}
	e.charter, e.number = m.Charter, m.Number
	return e
}

// editions returns messages by their editions, however often each one arrived.
func editions(l []api.FreightMessage) (map[edition]api.FreightMessage, api.Errno) {
	found := map[edition]api.FreightMessage{}
	for _, m := range l {
		if other, twice := found[editionOf(m)]; twice && other != m {
			return nil, api.ErrTwice
		}
		found[editionOf(m)] = m
	}
	return found, api.OK
}

// latest returns the greatest revision of each fact.
func latest(found map[edition]api.FreightMessage) map[key]int {
	revisions := map[key]int{}
	for e := range found {
		revisions[e.key] = max(revisions[e.key], e.revision)
	}
	return revisions
}

// Facts returns the facts that messages report.
func Facts(l []api.FreightMessage) ([]api.FreightMessage, api.Errno) {
	if len(l) > api.MaxMessages {
		return nil, api.ErrLong
	}
	if !validMessages(l) {
		return nil, api.ErrArg
	}
	found, e := editions(l)
	if e != api.OK {
		return nil, e
	}
	var facts []api.FreightMessage
	for k, revision := range latest(found) {
		if m := found[edition{k, revision}]; m.Kind != api.FactWithdrawn {
			facts = append(facts, m)
		}
	}
	slices.SortFunc(facts, func(a, b api.FreightMessage) int {
		return cmp.Or(cmp.Compare(a.Charter, b.Charter), cmp.Compare(a.Minute, b.Minute), cmp.Compare(a.Number, b.Number))
	})
	return facts, api.OK
}
