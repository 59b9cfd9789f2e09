package river_test

import (
	"slices"
	"testing"

	"thalweg/api"
	"thalweg/river"
)

// land returns the land of the chapter's example 5.
func land() api.Catch { return api.Catch{Area: 10, Percent: 50, Melt: 2, Snow: to(100, 150)} }

// sky returns an hour of a sky.
func sky(rain, heat api.Bounds) api.SkyHour { return api.SkyHour{Rain: rain, Heat: heat} }

// P1.2 and example 5: what runs off, with snow that comes to an end, frost, and numbers that are rounded.
func TestRunoff(t *testing.T) {
	mild := to(10, 40)
	for name, c := range map[string]struct {
		change func(c *api.Catch)
		sky    []api.SkyHour
		want   []api.Bounds
	}{
		"no hours": {func(c *api.Catch) {}, nil, nil},
		"example": {
			func(c *api.Catch) {},
			[]api.SkyHour{sky(to(200, 300), mild), sky(to(200, 300), mild)},
			[]api.Bounds{to(11000, 19000), to(11000, 19000)},
		},
		"snow ends": {
			func(c *api.Catch) {},
			[]api.SkyHour{sky(to(0, 0), to(40, 45)), sky(to(0, 0), to(40, 45)), sky(to(0, 0), to(40, 45))},
			[]api.Bounds{to(4000, 4500), to(500, 3500), to(0, 0)},
		},
		"frost": {
			func(c *api.Catch) {},
			[]api.SkyHour{sky(to(5, 5), to(-500, -1)), sky(to(0, 1), to(-20, 10)), sky(to(0, 0), to(50, 50))},
			[]api.Bounds{to(250, 250), to(0, 1050), to(4000, 5000)},
		},
		"only rain": {
			func(c *api.Catch) { c.Snow = to(0, 0) },
			[]api.SkyHour{sky(to(1, 2), to(500, 500))},
			[]api.Bounds{to(50, 100)},
		},
		"snow does not melt": {
			func(c *api.Catch) { c.Melt = 0 },
			[]api.SkyHour{sky(to(0, 0), to(500, 500))},
			[]api.Bounds{to(0, 0)},
		},
		"rounded": {
			func(c *api.Catch) { c.Area, c.Percent = 3, 1 },
			[]api.SkyHour{sky(to(1, 1), to(0, 0)), sky(to(10, 11), to(0, 0))},
			[]api.Bounds{to(0, 1), to(3, 4)},
		},
		"no land":  {func(c *api.Catch) { c.Area = 0 }, []api.SkyHour{sky(to(1, 2), mild)}, []api.Bounds{to(0, 0)}},
		"no share": {func(c *api.Catch) { c.Percent = 0 }, []api.SkyHour{sky(to(1, 2), mild)}, []api.Bounds{to(0, 0)}},
		"greatest": {
			func(c *api.Catch) { *c = api.Catch{Area: 10000, Percent: 100, Melt: 100, Snow: to(0, 1000000)} },
			[]api.SkyHour{sky(to(0, 20000), to(-500, 500))},
			[]api.Bounds{to(0, 7000000000)},
		},
	} {
		x := land()
		c.change(&x)
		if got, e := river.Runoff(x, c.sky); !slices.Equal(got, c.want) || e != api.OK {
			t.Errorf("%s: %v, error %d; want %v", name, got, e, c.want)
		}
	}
}

// P1.2: the errors, in their order.
func TestRunoffErrors(t *testing.T) {
	dry := sky(to(0, 0), to(0, 0))
	wrong := sky(to(1, 0), to(1, 0))
	for name, c := range map[string]struct {
		change func(c *api.Catch)
		sky    []api.SkyHour
		e      api.Errno
	}{
		"area -1":            {func(c *api.Catch) { c.Area = -1 }, nil, api.ErrArg},
		"area 10001":         {func(c *api.Catch) { c.Area = 10001 }, nil, api.ErrArg},
		"percent -1":         {func(c *api.Catch) { c.Percent = -1 }, nil, api.ErrArg},
		"percent 101":        {func(c *api.Catch) { c.Percent = 101 }, nil, api.ErrArg},
		"melt -1":            {func(c *api.Catch) { c.Melt = -1 }, nil, api.ErrArg},
		"melt 101":           {func(c *api.Catch) { c.Melt = 101 }, nil, api.ErrArg},
		"snow below 0":       {func(c *api.Catch) { c.Snow = to(-1, 0) }, nil, api.ErrArg},
		"snow too great":     {func(c *api.Catch) { c.Snow = to(0, 1000001) }, nil, api.ErrArg},
		"snow descends":      {func(c *api.Catch) { c.Snow = to(1, 0) }, nil, api.ErrArg},
		"land before hours":  {func(c *api.Catch) { c.Area = -1 }, slices.Repeat([]api.SkyHour{dry}, 401), api.ErrArg},
		"400 hours":          {func(c *api.Catch) {}, slices.Repeat([]api.SkyHour{dry}, 400), api.OK},
		"401 hours":          {func(c *api.Catch) {}, slices.Repeat([]api.SkyHour{wrong}, 401), api.ErrLong},
		"rain below 0":       {func(c *api.Catch) {}, []api.SkyHour{dry, sky(to(-1, 0), to(0, 0))}, api.ErrArg},
		"rain too great":     {func(c *api.Catch) {}, []api.SkyHour{sky(to(0, 20001), to(0, 0)), dry}, api.ErrArg},
		"rain descends":      {func(c *api.Catch) {}, []api.SkyHour{sky(to(1, 0), to(0, 0))}, api.ErrArg},
		"frost too great":    {func(c *api.Catch) {}, []api.SkyHour{sky(to(0, 0), to(-501, 0))}, api.ErrArg},
		"heat too great":     {func(c *api.Catch) {}, []api.SkyHour{sky(to(0, 0), to(0, 501))}, api.ErrArg},
		"heat descends":      {func(c *api.Catch) {}, []api.SkyHour{sky(to(0, 0), to(1, 0))}, api.ErrArg},
		"last hour is wrong": {func(c *api.Catch) {}, []api.SkyHour{dry, dry, wrong}, api.ErrArg},
	} {
		x := land()
		c.change(&x)
		got, e := river.Runoff(x, c.sky)
		if e != c.e || e != api.OK && len(got) > 0 {
			t.Errorf("%s: %d hours, error %d; want %d", name, len(got), e, c.e)
		}
	}
}
