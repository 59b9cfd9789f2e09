package freight_test

import (
	"slices"
	"testing"

	"thalweg/api"
	"thalweg/freight"
)

// carry returns what offers gain if they are carried one after another, and whether they can be.
func carry(l []api.FreightOffer, list []int, place, minute, slow, cost int) (int, bool) {
	gain := 0
	for _, i := range list {
		d := l[i].From - place
		if d < 0 {
			d = -d
		}
		if minute+d*slow > l[i].Begin {
			return 0, false
		}
		gain += l[i].Pay - d*cost
		place, minute = l[i].To, l[i].End
	}
	return gain, true
}

// inOrder returns the offers of a set, whose indices are bits, in the order in which they are carried.
func inOrder(l []api.FreightOffer, set int) []int {
	var list []int
	for minute := range 100 {
		for i, o := range l {
			if set>>i&1 == 1 && o.Begin == minute {
				list = append(list, i)
			}
		}
	}
	return list
}

// bestOf tries all sets of offers.
func bestOf(l []api.FreightOffer, place, minute, slow, cost int) ([]int, int) {
	var best []int
	most := 0
	for set := range 1 << len(l) {
		list := inOrder(l, set)
		gain, possible := carry(l, list, place, minute, slow, cost)
		if !possible || gain < most {
			continue
		}
		shorter := len(list) < len(best) || len(list) == len(best) && slices.Compare(list, best) < 0
		if gain > most || shorter {
			best, most = list, gain
		}
	}
	return best, most
}

// P7.7: the last example.
func TestExampleOfBest(t *testing.T) {
	if list, gain, e := freight.Best(offers(), 0, 0, 5, 100); !slices.Equal(list, []int{0, 1}) || gain != 90000 || e != api.OK {
		t.Error(list, gain, e)
	}
	if list, gain, e := freight.Best(offers(), 10, 0, 5, 100); !slices.Equal(list, []int{1}) || gain != 31000 || e != api.OK {
		t.Error(list, gain, e)
	}
}

// P7.7: which offers are taken.
func TestEdgesOfBest(t *testing.T) {
	for name, x := range map[string]struct {
		l                         []api.FreightOffer
		place, minute, slow, cost int
		want                      []int
		gain                      int
	}{
		"no offers":                     {nil, 5, 5, 5, 5, nil, 0},
		"just in time":                  {[]api.FreightOffer{offer(10, 0, 50, 60, 100)}, 0, 0, 5, 3, []int{0}, 70},
		"a minute late":                 {[]api.FreightOffer{offer(10, 0, 50, 60, 100)}, 0, 1, 5, 3, nil, 0},
		"from below":                    {[]api.FreightOffer{offer(10, 0, 50, 60, 100)}, 20, 0, 5, 3, []int{0}, 70},
		"from too far":                  {[]api.FreightOffer{offer(10, 0, 50, 60, 100)}, 21, 0, 5, 3, nil, 0},
		"at once":                       {[]api.FreightOffer{offer(10, 0, 50, 60, 100)}, 10, 50, 1000, 3, []int{0}, 100},
		"it pays nothing":               {[]api.FreightOffer{offer(10, 0, 50, 60, 0)}, 10, 50, 1000, 3, nil, 0},
		"it pays what the move costs":   {[]api.FreightOffer{offer(10, 0, 50, 60, 30)}, 0, 0, 5, 3, nil, 0},
		"it pays a cent more":           {[]api.FreightOffer{offer(10, 0, 50, 60, 31)}, 0, 0, 5, 3, []int{0}, 1},
		"a loss that leads to a gain":   {[]api.FreightOffer{offer(10, 90, 20, 30, 0), offer(90, 0, 40, 50, 900)}, 0, 0, 1, 3, []int{0, 1}, 870},
		"fewer of the same gain":        {[]api.FreightOffer{offer(0, 0, 0, 5, 30), offer(0, 0, 5, 9, 30), offer(0, 0, 0, 9, 60)}, 0, 0, 1, 1, []int{2}, 60},
		"the smallest of as many":       {[]api.FreightOffer{offer(0, 0, 6, 9, 30), offer(0, 0, 0, 5, 30)}, 0, 0, 1, 1, []int{1, 0}, 60},
		"the first of equal ones":       {[]api.FreightOffer{offer(0, 0, 3, 9, 30), offer(0, 0, 0, 9, 30)}, 0, 0, 1, 1, []int{0}, 30},
		"the smallest list":             {[]api.FreightOffer{offer(0, 0, 5, 9, 30), offer(0, 0, 0, 4, 30), offer(0, 0, 1, 4, 30)}, 0, 0, 1, 1, []int{1, 0}, 60},
		"the smallest rest":             {[]api.FreightOffer{offer(0, 0, 0, 4, 30), offer(0, 0, 5, 9, 30), offer(0, 0, 4, 8, 30)}, 0, 0, 1, 1, []int{0, 1}, 60},
		"at the same minute":            {[]api.FreightOffer{offer(0, 5, 4, 4, 30), offer(5, 5, 4, 9, 30)}, 0, 0, 0, 1, []int{0, 1}, 60},
		"in the order of the indices":   {[]api.FreightOffer{offer(5, 5, 4, 9, 31), offer(0, 5, 4, 4, 30)}, 0, 0, 0, 0, []int{0}, 31},
		"moves that take no time":       {[]api.FreightOffer{offer(0, 100000, 1, 1, 30), offer(0, 0, 1, 1, 40)}, 50000, 1, 0, 0, []int{0, 1}, 70},
		"no offer is carried twice":     {[]api.FreightOffer{offer(0, 0, 1, 1, 30)}, 0, 0, 0, 0, []int{0}, 30},
		"an offer ends when one begins": {[]api.FreightOffer{offer(0, 1, 0, 5, 1), offer(1, 0, 5, 7, 1)}, 0, 0, 9, 9, []int{0, 1}, 2},
	} {
		list, gain, e := freight.Best(x.l, x.place, x.minute, x.slow, x.cost)
		if !slices.Equal(list, x.want) || gain != x.gain || e != api.OK {
			t.Errorf("%s: %v for %d, error %d", name, list, gain, e)
		}
	}
}

// P7.7 and P7.12: Best agrees with a search through all sets of offers.
func TestBest(t *testing.T) {
	d, sizes := newDice(76), map[int]int{}
	for i := range 2000 {
		l := d.offers(8, []int{0, 3, 9}[i%3], []int{5, 12, 30}[i/3%3], []int{2, 9, 50}[i/9%3])
		place, minute, slow, cost := d.from(0, 9), d.from(0, 5), d.from(0, 2), d.from(0, 4)
		list, gain, e := freight.Best(l, place, minute, slow, cost)
		want, most := bestOf(l, place, minute, slow, cost)
		if !slices.Equal(list, want) || gain != most || e != api.OK {
			t.Fatalf("%v from %d, %d, %d, %d: %v for %d, not %v for %d; error %d", l, place, minute, slow, cost, list, gain, want, most, e)
		}
		sizes[len(list)]++
	}
	for size := range 4 {
		if sizes[size] < 50 {
			t.Errorf("%d offers are best in %d cases", size, sizes[size])
		}
	}
}
