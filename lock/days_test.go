package lock_test

import (
	"reflect"
	"slices"
	"testing"

	"thalweg/api"
	"thalweg/lock"
)

// reach returns a reach of a chain.
func reach(volume, least int, inflow api.Bounds) api.LockReach {
	return api.LockReach{Volume: volume, Least: least, Inflow: inflow}
}

// traffic returns how often a lock is filled and emptied.
func traffic(fill int, cycles api.Bounds) api.LockTraffic {
	return api.LockTraffic{Fill: fill, Cycles: cycles}
}

// chain returns the chain of the chapter's example 5.
func chain() ([]api.LockReach, []api.LockTraffic) {
	return []api.LockReach{reach(10000, 8000, to(500, 600)), reach(5000, 0, at(0))}, []api.LockTraffic{traffic(1000, to(1, 2))}
}

// stairs returns a chain of n reaches.
func stairs(n int) ([]api.LockReach, []api.LockTraffic) {
	return slices.Repeat([]api.LockReach{reach(100, 50, to(1, 2))}, n), slices.Repeat([]api.LockTraffic{traffic(10, to(0, 3))}, n-1)
}

// P4.6 and example 5: the bounds of all volumes, day by day.
func TestDays(t *testing.T) {
	two, between := chain()
	for name, c := range map[string]struct {
		reaches []api.LockReach
		locks   []api.LockTraffic
		days    int
		want    [][]api.Bounds
	}{
		"example 5":       {two, between, 2, [][]api.Bounds{{to(8500, 9600), to(6000, 7000)}, {to(7000, 9200), to(7000, 9000)}}},
		"no days":         {two, between, 0, nil},
		"one reach":       {two[:1], nil, 2, [][]api.Bounds{{to(10500, 10600)}, {to(11000, 11200)}}},
		"below 0":         {[]api.LockReach{reach(0, 0, at(0)), reach(0, 0, at(0))}, between, 2, [][]api.Bounds{{to(-2000, -1000), to(1000, 2000)}, {to(-4000, -2000), to(2000, 4000)}}},
		"exactly known":   {[]api.LockReach{reach(9, 0, at(3)), reach(7, 0, at(1))}, []api.LockTraffic{traffic(5, at(2))}, 1, [][]api.Bounds{{at(2), at(18)}}},
		"between 2 locks": {[]api.LockReach{reach(0, 0, at(0)), reach(50, 0, to(7, 9)), reach(0, 0, at(0))}, []api.LockTraffic{traffic(10, to(1, 3)), traffic(100, to(4, 6))}, 1, [][]api.Bounds{{to(-30, -10), to(50+7+10-600, 50+9+30-400), to(400, 600)}}},
		"greatest of all": {[]api.LockReach{reach(1000000000000, 0, at(1000000000000)), reach(0, 0, at(0))}, []api.LockTraffic{traffic(1000000, to(0, 100))}, 1, [][]api.Bounds{{to(2000000000000-100000000, 2000000000000), to(0, 100000000)}}},
	} {
		got, e := lock.Days(c.reaches, c.locks, c.days)
		if len(got)+len(c.want) > 0 && !reflect.DeepEqual(got, c.want) || e != api.OK {
			t.Errorf("%s: %v, error %d", name, got, e)
		}
	}
	reaches, locks := stairs(10)
	got, e := lock.Days(reaches, locks, 60)
	if len(got) != 60 || len(got[59]) != 10 || got[59][0] != to(100+60-1800, 100+120) || got[59][4] != to(100+60-1800, 100+120+1800) || got[59][9] != to(100+60, 100+120+1800) || e != api.OK {
		t.Errorf("after 60 days %v, error %d", got, e)
	}
}

// P4.7 and example 5: the first day and reach with too little water, perhaps or surely.
func TestShort(t *testing.T) {
	two, between := chain()
	falling := []api.LockTraffic{traffic(100, to(1, 2))}
	least := func(first, second int) []api.LockReach {
		return []api.LockReach{reach(1000, first, at(0)), reach(1000, second, at(0))}
	}
	for name, c := range map[string]struct {
		reaches    []api.LockReach
		locks      []api.LockTraffic
		days       int
		day, reach int
		surely     bool
	}{
		"example 5":             {two, between, 2, 2, 0, false},
		"example 5, more days":  {two, between, 60, 2, 0, false},
		"one day too few":       {two, between, 1, 0, 0, false},
		"no days":               {least(2000, 2000), falling, 0, 0, 0, false},
		"day 0 does not count":  {least(0, 1100), falling, 5, 0, 0, false},
		"as much as is needed":  {least(800, 0), falling, 1, 0, 0, false},
		"less by 1, perhaps":    {least(801, 0), falling, 1, 1, 0, false},
		"perhaps, not surely":   {least(900, 0), falling, 1, 1, 0, false},
		"surely":                {least(901, 0), falling, 1, 1, 0, true},
		"second reach":          {least(0, 1101), falling, 9, 1, 1, false},
		"second reach, surely":  {least(0, 1201), falling, 9, 1, 1, true},
		"first of both":         {least(801, 1201), falling, 9, 1, 0, false},
		"first day of both":     {least(700, 1150), falling, 9, 1, 1, false},
		"not below 0":           {least(0, 0), falling, 5, 0, 0, false},
		"below 0":               {least(0, 0), falling, 6, 6, 0, false},
		"perhaps before surely": {least(750, 0), falling, 9, 2, 0, false},
	} {
		day, reach, surely, e := lock.Short(c.reaches, c.locks, c.days)
		if day != c.day || reach != c.reach || surely != c.surely || e != api.OK {
			t.Errorf("%s: %d, %d, %t, error %d", name, day, reach, surely, e)
		}
	}
}

// P4.6 and P4.7: the errors, in their order.
func TestErrorsOfDays(t *testing.T) {
	const most = 1000000000000
	two, between := chain()
	change := func(f func(x []api.LockReach, y []api.LockTraffic)) func() ([]api.LockReach, []api.LockTraffic) {
		return func() ([]api.LockReach, []api.LockTraffic) {
			x, y := chain()
			f(x, y)
			return x, y
		}
	}
	list := func(x []api.LockReach, y []api.LockTraffic) func() ([]api.LockReach, []api.LockTraffic) {
		return func() ([]api.LockReach, []api.LockTraffic) { return x, y }
	}
	for name, c := range map[string]struct {
		chain func() ([]api.LockReach, []api.LockTraffic)
		e     api.Errno
	}{
		"as it is":             {chain, api.OK},
		"10 reaches":           {func() ([]api.LockReach, []api.LockTraffic) { return stairs(10) }, api.OK},
		"11 reaches":           {func() ([]api.LockReach, []api.LockTraffic) { return stairs(11) }, api.ErrLong},
		"11 reaches, no locks": {list(slices.Repeat(two[:1], 11), nil), api.ErrLong},
		"11 invalid reaches":   {list(slices.Repeat([]api.LockReach{reach(-1, 0, at(0))}, 11), nil), api.ErrLong},
		"nothing":              {list(nil, nil), api.ErrForm},
		"no reaches":           {list(nil, between), api.ErrForm},
		"no locks":             {list(two, nil), api.ErrForm},
		"as many locks":        {list(two, slices.Repeat(between, 2)), api.ErrForm},
		"more locks":           {list(two, slices.Repeat(between, 3)), api.ErrForm},
		"one reach, one lock":  {list(two[:1], between), api.ErrForm},
		"form before numbers":  {list([]api.LockReach{reach(-1, 0, at(0))}, between), api.ErrForm},
		"volume 0":             {change(func(x []api.LockReach, y []api.LockTraffic) { x[0].Volume = 0 }), api.OK},
		"volume below 0":       {change(func(x []api.LockReach, y []api.LockTraffic) { x[0].Volume = -1 }), api.ErrArg},
		"greatest volume":      {change(func(x []api.LockReach, y []api.LockTraffic) { x[1].Volume = most }), api.OK},
		"volume too great":     {change(func(x []api.LockReach, y []api.LockTraffic) { x[1].Volume = most + 1 }), api.ErrArg},
		"least below 0":        {change(func(x []api.LockReach, y []api.LockTraffic) { x[1].Least = -1 }), api.ErrArg},
		"greatest least":       {change(func(x []api.LockReach, y []api.LockTraffic) { x[1].Least = most }), api.OK},
		"least too great":      {change(func(x []api.LockReach, y []api.LockTraffic) { x[0].Least = most + 1 }), api.ErrArg},
		"inflow below 0":       {change(func(x []api.LockReach, y []api.LockTraffic) { x[0].Inflow.Low = -1 }), api.ErrArg},
		"widest inflow":        {change(func(x []api.LockReach, y []api.LockTraffic) { x[0].Inflow = to(0, most) }), api.OK},
		"inflow too great":     {change(func(x []api.LockReach, y []api.LockTraffic) { x[1].Inflow.High = most + 1 }), api.ErrArg},
		"inflow upside down":   {change(func(x []api.LockReach, y []api.LockTraffic) { x[1].Inflow = to(2, 1) }), api.ErrArg},
		"fill 0":               {change(func(x []api.LockReach, y []api.LockTraffic) { y[0].Fill = 0 }), api.OK},
		"fill below 0":         {change(func(x []api.LockReach, y []api.LockTraffic) { y[0].Fill = -1 }), api.ErrArg},
		"fill 1000000":         {change(func(x []api.LockReach, y []api.LockTraffic) { y[0].Fill = 1000000 }), api.OK},
		"fill 1000001":         {change(func(x []api.LockReach, y []api.LockTraffic) { y[0].Fill = 1000001 }), api.ErrArg},
		"cycles 0 to 100":      {change(func(x []api.LockReach, y []api.LockTraffic) { y[0].Cycles = to(0, 100) }), api.OK},
		"cycles below 0":       {change(func(x []api.LockReach, y []api.LockTraffic) { y[0].Cycles = to(-1, 1) }), api.ErrArg},
		"cycles 101":           {change(func(x []api.LockReach, y []api.LockTraffic) { y[0].Cycles = to(1, 101) }), api.ErrArg},
		"cycles upside down":   {change(func(x []api.LockReach, y []api.LockTraffic) { y[0].Cycles = to(1, 0) }), api.ErrArg},
	} {
		reaches, locks := c.chain()
		for n, inRange := range map[int]bool{-1: false, 0: true, 60: true, 61: false} {
			e := c.e
			if e == api.OK && !inRange {
				e = api.ErrRange
			}
			expect(t, name+": Days", days(reaches, locks, n), e)
			expect(t, name+": Short", short(reaches, locks, n), e)
		}
	}
}

// chain returns a chain of one to five reaches.
func (d dice) chain() ([]api.LockReach, []api.LockTraffic) {
	reaches := []api.LockReach{reach(d.from(0, 900), d.from(0, 300), d.bounds(0, 50))}
	var locks []api.LockTraffic
	for range d.from(0, 4) {
		reaches = append(reaches, reach(d.from(0, 900), d.from(0, 300), d.bounds(0, 50)))
		locks = append(locks, traffic(d.from(0, 30), d.bounds(0, 4)))
	}
	return reaches, locks
}

// choose returns one truth.
func (d dice) choose(b api.Bounds) int { return d.from(b.Low, b.High) }

// flow carries out a day; choose tells the inflow of a reach, and the cycles of the lock below it. It returns all inflow.
func flow(volumes []int, reaches []api.LockReach, locks []api.LockTraffic, choose func(b api.Bounds, reach int, in bool) int) int {
	all := 0
	for i, x := range reaches {
		in := choose(x.Inflow, i, true)
		volumes[i] += in
		all += in
		if i < len(locks) {
			for range choose(locks[i].Cycles, i, false) {
				volumes[i] -= locks[i].Fill
				volumes[i+1] += locks[i].Fill
			}
		}
	}
	return all
}

// volumesOf returns the volumes of reaches at first, and their sum.
func volumesOf(reaches []api.LockReach) (volumes []int, sum int) {
	for _, x := range reaches {
		volumes = append(volumes, x.Volume)
		sum += x.Volume
	}
	return volumes, sum
}

// P4.12: in each truth all volumes lie within the bounds, and no water is lost.
func TestDaysInTruth(t *testing.T) {
	d := newDice(46)
	for range 500 {
		reaches, locks := d.chain()
		ends, e := lock.Days(reaches, locks, 6)
		day, first, surely, f := lock.Short(reaches, locks, 6)
		if e != api.OK || f != api.OK {
			t.Fatal(e, f)
		}
		volumes, sum := volumesOf(reaches)
		for i := range 6 {
			sum += flow(volumes, reaches, locks, func(b api.Bounds, _ int, _ bool) int { return d.choose(b) })
			left := sum
			for n, v := range volumes {
				left -= v
				if v < ends[i][n].Low || v > ends[i][n].High {
					t.Fatalf("%d, not %v", v, ends[i][n])
				}
				before := day == 0 || i+1 < day || i+1 == day && n < first
				if before && v < reaches[n].Least || surely && i+1 == day && n == first && v >= reaches[n].Least {
					t.Fatalf("day %d, reach %d: %d of %d, but %d, %d, %t", i+1, n, v, reaches[n].Least, day, first, surely)
				}
			}
			if left != 0 {
				t.Fatalf("%v: %d of %d is lost", volumes, left, sum)
			}
		}
	}
}

// P4.12: each end of the bounds is possible.
func TestEndsOfDaysAreTrue(t *testing.T) {
	d := newDice(47)
	for range 200 {
		reaches, locks := d.chain()
		ends, e := lock.Days(reaches, locks, 5)
		if e != api.OK {
			t.Fatal(e)
		}
		for n := range reaches {
			lowest, _ := volumesOf(reaches)
			highest, _ := volumesOf(reaches)
			for i := range 5 {
				// A reach has the least water if little flows in, the lock above moves little, and the one below much.
				flow(lowest, reaches, locks, func(b api.Bounds, reach int, in bool) int {
					if reach == n && !in {
						return b.High
					}
					return b.Low
				})
				flow(highest, reaches, locks, func(b api.Bounds, reach int, in bool) int {
					if reach == n && !in {
						return b.Low
					}
					return b.High
				})
				if ends[i][n] != to(lowest[n], highest[n]) {
					t.Fatalf("day %d, reach %d: %v, not %d to %d", i+1, n, ends[i][n], lowest[n], highest[n])
				}
			}
		}
	}
}

// P4.12: if all numbers are known, so are the volumes.
func TestKnownDays(t *testing.T) {
	d := newDice(48)
	for range 200 {
		reaches, locks := d.chain()
		for i := range reaches {
			reaches[i].Inflow = at(d.choose(reaches[i].Inflow))
		}
		for i := range locks {
			locks[i].Cycles = at(d.choose(locks[i].Cycles))
		}
		ends, e := lock.Days(reaches, locks, 5)
		for _, volumes := range ends {
			for _, v := range volumes {
				if v.Low != v.High || e != api.OK {
					t.Fatalf("%v, error %d", volumes, e)
				}
			}
		}
	}
}
