package river_test

import (
	"slices"
	"testing"

	"thalweg/api"
	"thalweg/river"
)

// equal reports whether two lists of lists are the same.
func equal(a, b [][]api.Bounds) bool {
	return slices.EqualFunc(a, b, func(x, y []api.Bounds) bool { return slices.Equal(x, y) })
}

// P1.3 and example 1: each reach has the water of the one above, later by that one's delay.
func TestFlows(t *testing.T) {
	want := [][]api.Bounds{
		hours(4, to(2000, 3000)),
		{to(1500, 1500), to(1500, 1500), to(2500, 3500), to(2500, 3500)},
	}
	if got, e := river.Flows(example(), forecast()); !equal(got, want) || e != api.OK {
		t.Errorf("example: %v, error %d", got, e)
	}
	if got, e := river.Flows(api.River{}, forecast()); got != nil || e != api.ErrArg {
		t.Errorf("no river: %v, error %d", got, e)
	}
}

// P1.3: the delays and the bases are those of the reach above, and what is above two reaches comes into the lower one too.
func TestFlowsDelays(t *testing.T) {
	r := longRiver(4)
	r.Reaches[0].Delay, r.Reaches[0].Base = 1, to(10, 20)
	r.Reaches[1].Delay, r.Reaches[1].Base = 0, to(1000, 2000)
	r.Reaches[2].Delay, r.Reaches[2].Base = 3, to(7, 9)
	r.Reaches[3].Delay, r.Reaches[3].Base = 1, to(5000, 5000)
	sides := [][]api.Bounds{
		{to(1, 2), to(3, 4), to(5, 6)},
		{to(100, 200), to(100, 200), to(100, 200)},
		{to(0, 1000), to(0, 0), to(0, 0)},
		{to(0, 0), to(0, 0), to(0, 1)},
	}
	want := [][]api.Bounds{
		{to(1, 2), to(3, 4), to(5, 6)},
		{to(110, 220), to(101, 202), to(103, 204)},
		{to(110, 1220), to(101, 202), to(103, 204)},
		{to(7, 9), to(7, 9), to(7, 10)},
	}
	if got, e := river.Flows(r, sides); !equal(got, want) || e != api.OK {
		t.Errorf("%v, error %d", got, e)
	}
}

// P1.4: the curve before its first row, at its rows, between and behind them, and the weir.
func TestLevel(t *testing.T) {
	x := api.Reach{
		Length: 1, Weir: 102,
		Curve: []api.RateRow{{Flow: 10, Level: 100}, {Flow: 13, Level: 110}, {Flow: 20, Level: 110}, {Flow: 21, Level: 200}},
	}
	for _, c := range []struct {
		flow, want api.Bounds
		e          api.Errno
	}{
		{to(0, 10), to(102, 102), api.OK},
		{to(11, 11), to(103, 104), api.OK},
		{to(12, 12), to(106, 107), api.OK},
		{to(10, 12), to(102, 107), api.OK},
		{to(13, 20), to(110, 110), api.OK},
		{to(20, 21), to(110, 200), api.OK},
		{to(21, 22), to(200, 200), api.OK},
		{to(99, 210000000000), to(200, 200), api.OK},
		{to(0, 210000000001), to(0, 0), api.ErrRange},
		{to(-1, 3), to(0, 0), api.ErrRange},
		{to(4, 3), to(0, 0), api.ErrRange},
	} {
		if got, e := river.Level(x, c.flow); got != c.want || e != c.e {
			t.Errorf("%v: %v, error %d", c.flow, got, e)
		}
	}
	x.Weir = 0
	if got, e := river.Level(x, to(0, 10)); got != to(100, 100) || e != api.OK {
		t.Errorf("without a weir: %v, error %d", got, e)
	}
	x.Weir = 10000
	if got, e := river.Level(x, to(0, 99)); got != to(10000, 10000) || e != api.OK {
		t.Errorf("with a high weir: %v, error %d", got, e)
	}
}

// P1.4: the greatest numbers that a curve can have do not overflow.
func TestLevelOfGreatFlows(t *testing.T) {
	x := api.Reach{Length: 1, Curve: []api.RateRow{{}, {Flow: api.MaxSide, Level: api.MaxLevel}}}
	if got, e := river.Level(x, to(1, api.MaxSide-1)); got != to(0, 10000) || e != api.OK {
		t.Errorf("%v, error %d", got, e)
	}
	if got, e := river.Level(x, to(5000000000, 5000000000)); got != to(5000, 5000) || e != api.OK {
		t.Errorf("%v, error %d", got, e)
	}
}

// P1.4: a reach that no valid river can have is an error before that of the flow.
func TestLevelOfInvalidReaches(t *testing.T) {
	for name, change := range invalidRivers {
		r := example()
		change(&r)
		for _, x := range r.Reaches {
			_, want := river.Flows(api.River{Reaches: []api.Reach{x}}, [][]api.Bounds{{to(0, 0)}})
			if _, e := river.Level(x, to(0, 0)); e != want {
				t.Errorf("%s: error %d, not %d", name, e, want)
			}
			if got, e := river.Level(x, to(2, 1)); want == api.ErrArg && (got != to(0, 0) || e != want) {
				t.Errorf("%s, and a flow that is wrong: %v, error %d", name, got, e)
			}
		}
	}
}

// P1.4 and example 2: the level of each reach for its flow.
func TestLevels(t *testing.T) {
	want := [][]api.Bounds{hours(4, to(140, 160)), hours(4, to(150, 150))}
	if got, e := river.Levels(example(), forecast()); !equal(got, want) || e != api.OK {
		t.Errorf("example: %v, error %d", got, e)
	}
	if got, e := river.Levels(example(), nil); got != nil || e != api.ErrForm {
		t.Errorf("no forecast: %v, error %d", got, e)
	}
	d := newDice(4)
	for range 100 {
		r := d.river()
		sides := d.sides(r)
		flows, _ := river.Flows(r, sides)
		levels, e := river.Levels(r, sides)
		if e != api.OK || len(levels) != len(flows) {
			t.Fatalf("%d levels, error %d", len(levels), e)
		}
		for i, x := range r.Reaches {
			for hour, flow := range flows[i] {
				if want, _ := river.Level(x, flow); levels[i][hour] != want {
					t.Errorf("reach %d, hour %d: %v, not %v", i, hour, levels[i][hour], want)
				}
			}
		}
	}
}

// P1.5: the sum of all Lows, and of all Highs, and the errors in their order.
func TestVolume(t *testing.T) {
	for _, c := range []struct {
		reach, from, to int
		want            api.Bounds
		e               api.Errno
	}{
		{0, 0, 4, to(8000, 12000), api.OK},
		{1, 0, 4, to(8000, 10000), api.OK},
		{1, 1, 3, to(4000, 5000), api.OK},
		{1, 0, 1, to(1500, 1500), api.OK},
		{1, 3, 4, to(2500, 3500), api.OK},
		{1, 0, 0, to(0, 0), api.OK},
		{1, 4, 4, to(0, 0), api.OK},
		{2, 0, 1, to(0, 0), api.ErrNone},
		{-1, 5, 0, to(0, 0), api.ErrNone},
		{0, 2, 1, to(0, 0), api.ErrRange},
		{0, -1, 1, to(0, 0), api.ErrRange},
		{0, -2, -1, to(0, 0), api.ErrRange},
		{0, 0, 5, to(0, 0), api.ErrRange},
		{0, 5, 5, to(0, 0), api.ErrRange},
		{0, 5, 4, to(0, 0), api.ErrRange},
	} {
		if got, e := river.Volume(example(), forecast(), c.reach, c.from, c.to); got != c.want || e != c.e {
			t.Errorf("reach %d, hours %d to %d: %v, error %d", c.reach, c.from, c.to, got, e)
		}
	}
}

// P1.5: the greatest river does not overflow.
func TestVolumeOfGreatRiver(t *testing.T) {
	r := longRiver(20)
	sides := slices.Repeat([][]api.Bounds{hours(400, to(api.MaxSide, api.MaxSide))}, 20)
	want := 20 * 400 * 10000000000
	if got, e := river.Volume(r, sides, 19, 0, 400); got != to(want, want) || e != api.OK {
		t.Errorf("%v, error %d", got, e)
	}
}
