package tow_test

import (
	"slices"
	"testing"

	"thalweg/api"
	"thalweg/tow"
)

// P3.1 and example 1: the size of tows.
func TestMeasure(t *testing.T) {
	for name, c := range map[string]struct {
		rows [][]api.TowHull
		want api.TowSize
	}{
		"example 1":     {example().Rows, api.TowSize{Length: 200, Width: 22, Mass: 7700, Hulls: 3}},
		"boat alone":    {nil, api.TowSize{Length: 30, Width: 10, Mass: 200}},
		"empty rows":    {[][]api.TowHull{}, api.TowSize{Length: 30, Width: 10, Mass: 200}},
		"narrow hull":   {[][]api.TowHull{{hull(50, 9, 0)}}, api.TowSize{Length: 80, Width: 10, Mass: 200, Hulls: 1}},
		"wide hull":     {[][]api.TowHull{{hull(50, 11, 1)}}, api.TowSize{Length: 80, Width: 11, Mass: 201, Hulls: 1}},
		"first is long": {[][]api.TowHull{{hull(50, 2, 0), hull(40, 3, 0)}}, api.TowSize{Length: 80, Width: 10, Mass: 200, Hulls: 2}},
		"last is long":  {[][]api.TowHull{{hull(40, 5, 0), hull(50, 6, 0)}}, api.TowSize{Length: 80, Width: 11, Mass: 200, Hulls: 2}},
		"first is wide": {[][]api.TowHull{{hull(1, 30, 0), hull(1, 30, 0)}, {hull(1, 30, 0)}}, api.TowSize{Length: 32, Width: 60, Mass: 200, Hulls: 3}},
		"last is wide":  {[][]api.TowHull{{hull(1, 30, 0)}, {hull(1, 30, 0), hull(1, 1, 0)}}, api.TowSize{Length: 32, Width: 31, Mass: 200, Hulls: 3}},
		"greatest": {
			slices.Repeat([][]api.TowHull{slices.Repeat([]api.TowHull{hull(200, 30, 10000)}, 3)}, 10),
			api.TowSize{Length: 2030, Width: 90, Mass: 300200, Hulls: 30},
		},
	} {
		x := example()
		x.Rows = c.rows
		if got, e := tow.Measure(x); got != c.want || e != api.OK {
			t.Errorf("%s: %v, error %d", name, got, e)
		}
	}
}

// rowsOf returns rows of so many small hulls.
func rowsOf(counts ...int) [][]api.TowHull {
	var rows [][]api.TowHull
	for _, n := range counts {
		rows = append(rows, slices.Repeat([]api.TowHull{hull(1, 1, 0)}, n))
	}
	return rows
}

// P3.1: which tows are valid.
func TestValidTows(t *testing.T) {
	for name, c := range map[string]struct {
		change func(x *api.Tow)
		e      api.Errno
	}{
		"zero value":       {func(x *api.Tow) { *x = api.Tow{} }, api.ErrArg},
		"length 0":         {func(x *api.Tow) { x.Boat.Length = 0 }, api.ErrArg},
		"length 1":         {func(x *api.Tow) { x.Boat.Length = 1 }, api.OK},
		"length 200":       {func(x *api.Tow) { x.Rows[0][0].Length = 200 }, api.OK},
		"length 201":       {func(x *api.Tow) { x.Rows[0][0].Length = 201 }, api.ErrArg},
		"width 0":          {func(x *api.Tow) { x.Rows[1][0].Width = 0 }, api.ErrArg},
		"width 1":          {func(x *api.Tow) { x.Rows[1][0].Width = 1 }, api.OK},
		"width 30":         {func(x *api.Tow) { x.Boat.Width = 30 }, api.OK},
		"width 31":         {func(x *api.Tow) { x.Boat.Width = 31 }, api.ErrArg},
		"mass -1":          {func(x *api.Tow) { x.Boat.Mass = -1 }, api.ErrArg},
		"mass 0":           {func(x *api.Tow) { x.Boat.Mass = 0 }, api.OK},
		"mass 10000":       {func(x *api.Tow) { x.Rows[0][1].Mass = 10000 }, api.OK},
		"mass 10001":       {func(x *api.Tow) { x.Rows[0][1].Mass = 10001 }, api.ErrArg},
		"power 0":          {func(x *api.Tow) { x.Power = 0 }, api.ErrArg},
		"power -1":         {func(x *api.Tow) { x.Power = -1 }, api.ErrArg},
		"power 1":          {func(x *api.Tow) { x.Power = 1 }, api.OK},
		"power 20000":      {func(x *api.Tow) { x.Power = 20000 }, api.OK},
		"power 20001":      {func(x *api.Tow) { x.Power = 20001 }, api.ErrArg},
		"10 rows":          {func(x *api.Tow) { x.Rows = rowsOf(1, 1, 1, 1, 1, 1, 1, 1, 1, 1) }, api.OK},
		"11 rows":          {func(x *api.Tow) { x.Rows = rowsOf(1, 1, 1, 1, 1, 1, 1, 1, 1, 1, 1) }, api.ErrArg},
		"4 abreast":        {func(x *api.Tow) { x.Rows = rowsOf(4) }, api.OK},
		"5 abreast":        {func(x *api.Tow) { x.Rows = rowsOf(1, 5) }, api.ErrArg},
		"no hull in a row": {func(x *api.Tow) { x.Rows = rowsOf(2, 0, 2) }, api.ErrArg},
		"30 hulls":         {func(x *api.Tow) { x.Rows = rowsOf(4, 4, 4, 4, 4, 4, 4, 2) }, api.OK},
		"31 hulls":         {func(x *api.Tow) { x.Rows = rowsOf(4, 4, 4, 4, 4, 4, 4, 3) }, api.ErrArg},
	} {
		x := example()
		c.change(&x)
		size, e := tow.Measure(x)
		expect(t, name, outcomeOf(e, size), c.e)
	}
}
