package tow_test

import (
	"slices"
	"testing"

	"thalweg/api"
	"thalweg/tow"
)

// alike returns n hulls of the same size.
func alike(n, length, width int) []api.TowHull {
	return slices.Repeat([]api.TowHull{hull(length, width, 0)}, n)
}

// lengths returns hulls that are 10 meters wide.
func lengths(meters ...int) []api.TowHull {
	var list []api.TowHull
	for _, n := range meters {
		list = append(list, hull(n, 10, 0))
	}
	return list
}

// P3.2 and example 2: the shortest rows, and of several ones the smallest list.
func TestStack(t *testing.T) {
	for name, c := range map[string]struct {
		hulls  []api.TowHull
		width  int
		rows   []int
		length int
	}{
		"example 2":           {[]api.TowHull{hull(80, 11, 0), hull(90, 11, 0), hull(80, 11, 0), hull(80, 11, 0)}, 23, []int{2, 2}, 200},
		"no hulls":            {nil, 10, nil, 30},
		"one hull":            {alike(1, 50, 10), 10, []int{1}, 80},
		"just wide enough":    {alike(2, 50, 10), 20, []int{2}, 80},
		"too narrow for two":  {alike(2, 50, 10), 19, []int{1, 1}, 130},
		"4 abreast":           {alike(4, 50, 1), 200, []int{4}, 80},
		"not 5 abreast":       {alike(5, 50, 1), 200, []int{1, 4}, 130},
		"smallest list":       {alike(5, 50, 10), 20, []int{1, 2, 2}, 180},
		"30 hulls":            {alike(30, 50, 10), 40, []int{2, 4, 4, 4, 4, 4, 4, 4}, 430},
		"30 hulls in 10 rows": {alike(30, 50, 10), 30, []int{3, 3, 3, 3, 3, 3, 3, 3, 3, 3}, 530},
		"10 rows":             {alike(10, 50, 10), 19, slices.Repeat([]int{1}, 10), 530},
		"long ones together":  {lengths(10, 90, 90, 10), 40, []int{4}, 120},
		"not with short ones": {lengths(10, 90, 90, 10, 90, 90), 20, []int{1, 2, 1, 2}, 230},
		"as short, but fewer": {lengths(50, 50, 100), 20, []int{1, 2}, 180},
		"more rows, smaller":  {lengths(10, 20, 10, 20), 30, []int{1, 3}, 60},
		"wide ones alone":     {[]api.TowHull{hull(50, 20, 0), hull(50, 5, 0), hull(50, 5, 0)}, 24, []int{1, 2}, 130},
		"too many rows for the shortest": {
			lengths(1, 200, 200, 1, 200, 200, 1, 200, 200, 1, 200, 200, 1, 200, 200, 1, 200, 200),
			20, []int{1, 2, 1, 2, 2, 2, 2, 2, 2, 2}, 1632,
		},
	} {
		rows, length, e := tow.Stack(boat(), c.hulls, c.width)
		if !slices.Equal(rows, c.rows) || length != c.length || e != api.OK {
			t.Errorf("%s: %v, %d, error %d", name, rows, length, e)
		}
	}
}

// P3.2: the errors, in their order.
func TestStackErrors(t *testing.T) {
	invalid := hull(0, 1, 0)
	for name, c := range map[string]struct {
		boat  api.TowHull
		hulls []api.TowHull
		width int
		e     api.Errno
	}{
		"boat too short":         {hull(0, 10, 0), nil, 10, api.ErrArg},
		"boat too long":          {hull(201, 10, 0), nil, 10, api.ErrArg},
		"boat too narrow":        {hull(30, 0, 0), nil, 10, api.ErrArg},
		"boat too wide":          {hull(30, 31, 0), nil, 40, api.ErrArg},
		"boat too heavy":         {hull(30, 10, 10001), nil, 10, api.ErrArg},
		"boat, before all":       {invalid, alike(31, 1, 1), 0, api.ErrArg},
		"last hull":              {boat(), append(alike(2, 1, 1), invalid), 10, api.ErrArg},
		"mass below 0":           {boat(), []api.TowHull{hull(1, 1, -1)}, 10, api.ErrArg},
		"hull, before all":       {boat(), append(alike(30, 1, 1), invalid), 0, api.ErrArg},
		"31 hulls":               {boat(), alike(31, 1, 1), 0, api.ErrLong},
		"31 hulls, wide enough":  {boat(), alike(31, 1, 1), 10, api.ErrLong},
		"width 0":                {boat(), nil, 0, api.ErrRange},
		"width below 0":          {boat(), alike(1, 1, 1), -10, api.ErrRange},
		"width 201":              {boat(), alike(1, 1, 1), 201, api.ErrRange},
		"width 200":              {boat(), alike(1, 1, 1), 200, api.OK},
		"width 1":                {hull(1, 1, 0), alike(1, 1, 1), 1, api.OK},
		"boat wider than rows":   {boat(), nil, 9, api.ErrNone},
		"boat wider than hulls":  {boat(), alike(2, 1, 1), 9, api.ErrNone},
		"boat just as wide":      {boat(), nil, 10, api.OK},
		"hull wider than rows":   {boat(), append(alike(2, 1, 1), hull(1, 11, 0)), 10, api.ErrNone},
		"11 rows":                {boat(), alike(11, 1, 10), 19, api.ErrNone},
		"11 rows, but for width": {boat(), alike(11, 1, 10), 20, api.OK},
		"30 hulls in 15 rows":    {boat(), alike(30, 1, 10), 29, api.ErrNone},
	} {
		rows, length, e := tow.Stack(c.boat, c.hulls, c.width)
		expect(t, name, outcomeOf(e, rows, length), c.e)
	}
}

// allRows calls visit with all lists of rows of hulls that are allowed, the smallest list first.
func allRows(hulls []api.TowHull, width int, rows []int, visit func([]int)) {
	if len(hulls) == 0 {
		visit(rows)
		return
	}
	if len(rows) == api.MaxTowRows {
		return
	}
	for n := 1; n <= min(len(hulls), api.MaxAbreast); n++ {
		sum := 0
		for _, h := range hulls[:n] {
			sum += h.Width
		}
		if sum <= width {
			allRows(hulls[n:], width, append(slices.Clone(rows), n), visit)
		}
	}
}

// towOf returns a tow with hulls in rows.
func towOf(hulls []api.TowHull, rows []int) api.Tow {
	x := api.Tow{Boat: boat(), Power: 1}
	for _, n := range rows {
		x.Rows = append(x.Rows, hulls[:n])
		hulls = hulls[n:]
	}
	return x
}

// P3.2 and P3.13: no other rows make a shorter tow; of several ones it is the smallest list, and Measure says that it is as long.
func TestNoShorterRows(t *testing.T) {
	d, none := newDice(30), 0
	for range 600 {
		hulls, width := d.hulls(d.from(0, 13)), d.from(10, 30)
		var best []int
		shortest := -1
		allRows(hulls, width, nil, func(rows []int) {
			size, e := tow.Measure(towOf(hulls, rows))
			if e != api.OK || size.Width > width {
				t.Fatalf("%v: %v, error %d", rows, size, e)
			}
			if shortest < 0 || size.Length < shortest {
				best, shortest = rows, size.Length
			}
		})
		rows, length, e := tow.Stack(boat(), hulls, width)
		if shortest < 0 {
			none++
			expect(t, "no rows", outcomeOf(e, rows, length), api.ErrNone)
			continue
		}
		if !slices.Equal(rows, best) || length != shortest || e != api.OK {
			t.Fatalf("%v, width %d: %v, %d, error %d; not %v, %d", hulls, width, rows, length, e, best, shortest)
		}
	}
	if none < 5 || none > 300 {
		t.Errorf("%d of 600 have no rows", none)
	}
}
