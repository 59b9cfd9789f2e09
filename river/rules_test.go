package river_test

import (
	"math"
	"reflect"
	"slices"
	"testing"

	"thalweg/api"
	"thalweg/river"
)

// R4: no argument is changed.
func TestArgumentsStay(t *testing.T) {
	r, sides, way := shoaly(), forecast(), []api.Pass{pass(10, 0, 1), pass(120, 2, 3)}
	l := []api.Closure{shut(0, 99, to(0, 1), to(2, 3))}
	c, hours := land(), []api.SkyHour{sky(to(200, 300), to(10, 40)), sky(to(0, 0), to(10, 40))}
	forecastCalls(r, sides)
	river.Check(r)
	river.Runoff(c, hours)
	river.Level(r.Reaches[0], to(0, 1))
	river.Bed(r, 120, 3)
	river.Shallowest(r, sides, way)
	river.Closed(r, sides, l, 0, 0)
	if !reflect.DeepEqual(r, shoaly()) || !reflect.DeepEqual(sides, forecast()) || c != land() {
		t.Error("a river, a forecast or a land was changed")
	}
	if way[0] != pass(10, 0, 1) || way[1] != pass(120, 2, 3) || l[0] != shut(0, 99, to(0, 1), to(2, 3)) {
		t.Error("a way or a closure was changed")
	}
	if hours[0] != sky(to(200, 300), to(10, 40)) || hours[1] != sky(to(0, 0), to(10, 40)) {
		t.Error("a sky was changed")
	}
}

// A result is new memory: to write into it changes neither an argument nor another list of the result.
func TestResultsAreNew(t *testing.T) {
	for name, call := range map[string]func(api.River, [][]api.Bounds) ([][]api.Bounds, api.Errno){"Flows": river.Flows, "Levels": river.Levels} {
		r, sides := example(), forecast()
		want, _ := call(example(), forecast())
		got, _ := call(r, sides)
		for hour := range got[0] {
			got[0][hour] = to(-1, -1)
		}
		_ = append(got[0], to(-2, -2))
		if !reflect.DeepEqual(r, example()) || !reflect.DeepEqual(sides, forecast()) {
			t.Errorf("%s: an argument was changed", name)
		}
		if !slices.Equal(got[1], want[1]) {
			t.Errorf("%s: the lists share memory: %v", name, got)
		}
		if again, _ := call(r, sides); !equal(again, want) {
			t.Errorf("%s: later calls are changed: %v", name, again)
		}
	}
}

// R3: nil and empty lists are the same.
func TestNilIsEmpty(t *testing.T) {
	if e := river.Check(api.River{Reaches: []api.Reach{}, Shoals: []api.Shoal{}}); e != api.ErrArg {
		t.Error(e)
	}
	if _, e := river.Flows(example(), [][]api.Bounds{}); e != api.ErrForm {
		t.Error(e)
	}
	if l, e := river.Runoff(land(), []api.SkyHour{}); len(l) != 0 || e != api.OK {
		t.Error(l, e)
	}
	if a, b, e := river.Closed(example(), forecast(), []api.Closure{}, 0, 0); a || b || e != api.OK {
		t.Error(a, b, e)
	}
}

// P1: no function panics, or returns anything but zero values with an error, for the least and the greatest integers.
func TestExtremeNumbers(t *testing.T) {
	for _, n := range []int{math.MinInt, math.MinInt + 1, -1, math.MaxInt - 1, math.MaxInt} {
		wide := to(math.MinInt, n)
		r := api.River{Reaches: []api.Reach{{Length: n, Delay: n, Base: wide, Curve: []api.RateRow{{Flow: n}, {Flow: n}}}}, Shoals: []api.Shoal{{Place: n, Sounded: n}}}
		if e := river.Check(r); e != api.ErrArg {
			t.Errorf("%d: Check returns %d", n, e)
		}
		if l, e := river.Runoff(api.Catch{Area: n, Percent: n, Melt: n, Snow: wide}, []api.SkyHour{{}}); l != nil || e != api.ErrArg {
			t.Errorf("%d: Runoff returns %v, error %d", n, l, e)
		}
		if l, e := river.Runoff(land(), []api.SkyHour{sky(wide, wide)}); l != nil || e != api.ErrArg {
			t.Errorf("%d: Runoff returns %v, error %d", n, l, e)
		}
		if l, e := river.Flows(example(), [][]api.Bounds{{wide}, {wide}}); l != nil || e != api.ErrArg {
			t.Errorf("%d: Flows returns %v, error %d", n, l, e)
		}
		if b, e := river.Level(example().Reaches[0], wide); b != to(0, 0) || e != api.ErrRange {
			t.Errorf("%d: Level returns %v, error %d", n, b, e)
		}
		if b, e := river.Volume(example(), forecast(), n, 0, 0); b != to(0, 0) || e != api.ErrNone {
			t.Errorf("%d: Volume returns %v, error %d", n, b, e)
		}
		if b, e := river.Volume(example(), forecast(), 0, n, n); b != to(0, 0) || e != api.ErrRange {
			t.Errorf("%d: Volume returns %v, error %d", n, b, e)
		}
		if b, e := river.Bed(example(), n, n); b != to(0, 0) || e != api.ErrNone {
			t.Errorf("%d: Bed returns %v, error %d", n, b, e)
		}
		if b, e := river.Depth(example(), forecast(), 0, n); b != to(0, 0) || e != api.ErrRange {
			t.Errorf("%d: Depth returns %v, error %d", n, b, e)
		}
		if b, p, h, e := river.Shallowest(example(), forecast(), []api.Pass{pass(0, math.MinInt, n)}); b != to(0, 0) || p != 0 || h != 0 || e != api.ErrRange {
			t.Errorf("%d: Shallowest returns %v, %d, %d, error %d", n, b, p, h, e)
		}
		if a, b, e := river.Closed(example(), forecast(), []api.Closure{shut(n, n, wide, wide)}, 0, 0); a || b || e != api.ErrArg {
			t.Errorf("%d: Closed returns %t, %t, error %d", n, a, b, e)
		}
	}
	for _, hour := range []int{math.MinInt, math.MaxInt} {
		if b, e := river.Bed(example(), 0, hour); b != to(0, 0) || e != api.ErrRange {
			t.Errorf("hour %d: Bed returns %v, error %d", hour, b, e)
		}
	}
}
