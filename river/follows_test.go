package river_test

import (
	"slices"
	"testing"

	"thalweg/api"
	"thalweg/river"
)

// pick returns one end of the bounds in each list.
func pick(lists [][]api.Bounds, end func(api.Bounds) int) [][]int {
	ends := make([][]int, len(lists))
	for i, list := range lists {
		for _, b := range list {
			ends[i] = append(ends[i], end(b))
		}
	}
	return ends
}

func low(b api.Bounds) int  { return b.Low }
func high(b api.Bounds) int { return b.High }

// P1.11: with only the Lows the Lows are the same, with only the Highs the Highs.
func TestBothEnds(t *testing.T) {
	d := newDice(20)
	for range 300 {
		r := d.river()
		sides := d.sides(r)
		flows, _ := river.Flows(r, sides)
		for name, end := range map[string]func(api.Bounds) int{"Low": low, "High": high} {
			only := func(b api.Bounds) api.Bounds { return to(end(b), end(b)) }
			got, e := river.Flows(mapRiver(r, only), mapSides(sides, only))
			want := pick(flows, end)
			same := slices.EqualFunc(pick(got, low), want, slices.Equal[[]int]) && slices.EqualFunc(pick(got, high), want, slices.Equal[[]int])
			if e != api.OK || !same {
				t.Fatalf("%s: %v, not %v; error %d", name, got, want, e)
			}
		}
	}
}

// P1.11: with narrower bounds no result is wider.
func TestNarrowerBounds(t *testing.T) {
	d := newDice(21)
	for range 500 {
		r := d.river()
		sides := d.sides(r)
		known, water := mapRiver(r, d.narrower), mapSides(sides, d.narrower)
		place, hour := d.from(0, places(r)-1), d.from(0, len(sides[0])-1)
		reach, way := reachOf(r, place), d.way(r, sides, 2)
		check := func(name string, narrow, wide api.Bounds) {
			if !inside(narrow, wide) {
				t.Fatalf("%s: %v is not in %v", name, narrow, wide)
			}
		}
		flows, _ := river.Flows(r, sides)
		narrowFlows, _ := river.Flows(known, water)
		check("Flows", narrowFlows[reach][hour], flows[reach][hour])
		levels, _ := river.Levels(r, sides)
		narrowLevels, _ := river.Levels(known, water)
		check("Levels", narrowLevels[reach][hour], levels[reach][hour])
		volume, _ := river.Volume(r, sides, reach, 0, hour)
		narrowVolume, _ := river.Volume(known, water, reach, 0, hour)
		check("Volume", narrowVolume, volume)
		bed, _ := river.Bed(r, place, hour)
		narrowBed, _ := river.Bed(known, place, hour)
		check("Bed", narrowBed, bed)
		depth, _ := river.Depth(r, sides, place, hour)
		narrowDepth, _ := river.Depth(known, water, place, hour)
		check("Depth", narrowDepth, depth)
		least, _, _, _ := river.Shallowest(r, sides, way)
		narrowLeast, _, _, _ := river.Shallowest(known, water, way)
		check("Shallowest", narrowLeast, least)
	}
}

// P1.11: with narrower bounds a place is not less surely closed, and not possibly closed where it was not.
func TestNarrowerClosures(t *testing.T) {
	d := newDice(22)
	for range 1000 {
		r := d.river()
		sides := d.sides(r)
		known, water := mapRiver(r, d.narrower), mapSides(sides, d.narrower)
		begin, end := d.bounds(-2, 6), d.bounds(0, 10)
		place, hour := d.from(0, places(r)-1), d.from(0, len(sides[0])-1)
		possibly, surely, _ := river.Closed(r, sides, []api.Closure{shut(0, place, begin, end)}, place, hour)
		nowPossibly, nowSurely, _ := river.Closed(known, water, []api.Closure{shut(0, place, d.narrower(begin), d.narrower(end))}, place, hour)
		if nowPossibly && !possibly || surely && !nowSurely {
			t.Fatalf("%t and %t, then %t and %t", possibly, surely, nowPossibly, nowSurely)
		}
	}
}

// P1.11: with narrower bounds of snow, rain and temperature no bounds of the runoff are wider.
func TestNarrowerSkies(t *testing.T) {
	d := newDice(23)
	for range 500 {
		c := api.Catch{Area: d.from(0, 20), Percent: d.from(0, 100), Melt: d.from(0, 5), Snow: d.bounds(0, 100)}
		known := c
		known.Snow = d.narrower(c.Snow)
		wide, narrow := make([]api.SkyHour, 5), make([]api.SkyHour, 5)
		for i := range wide {
			wide[i] = sky(d.bounds(0, 30), d.bounds(-10, 20))
			narrow[i] = sky(d.narrower(wide[i].Rain), d.narrower(wide[i].Heat))
		}
		a, _ := river.Runoff(c, wide)
		b, _ := river.Runoff(known, narrow)
		for i := range wide {
			if !inside(b[i], a[i]) {
				t.Fatalf("hour %d: %v is not in %v", i, b[i], a[i])
			}
		}
	}
}

// P1.11: with more water from the sides no end of a level is lower.
func TestMoreWater(t *testing.T) {
	d := newDice(24)
	for range 500 {
		r := d.river()
		sides := d.sides(r)
		more := mapSides(sides, func(b api.Bounds) api.Bounds {
			n := d.from(0, 20)
			return to(b.Low+n, b.High+n+d.from(0, 20))
		})
		levels, _ := river.Levels(r, sides)
		higher, _ := river.Levels(r, more)
		for i := range levels {
			for hour, b := range levels[i] {
				if higher[i][hour].Low < b.Low || higher[i][hour].High < b.High {
					t.Fatalf("%v, with more water %v", b, higher[i][hour])
				}
			}
		}
	}
}

// P1.12: the volume of a reach is that of the reach above, earlier by its delay, and what comes from the side.
func TestNoWaterIsLost(t *testing.T) {
	d, tried := newDice(25), 0
	for range 2000 {
		r := d.river()
		sides := d.sides(r)
		reach, part := d.from(0, len(r.Reaches)-1), d.bounds(0, len(sides[0]))
		want := to(0, 0)
		if reach > 0 {
			delay := r.Reaches[reach-1].Delay
			if part.Low < delay {
				continue
			}
			above, e := river.Volume(r, sides, reach-1, part.Low-delay, part.High-delay)
			if e != api.OK {
				t.Fatal(e)
			}
			want = above
			tried++
		}
		for _, b := range sides[reach][part.Low:part.High] {
			want.Low, want.High = want.Low+b.Low, want.High+b.High
		}
		if got, e := river.Volume(r, sides, reach, part.Low, part.High); got != want || e != api.OK {
			t.Fatalf("%v, not %v; error %d", got, want, e)
		}
	}
	if tried < 100 {
		t.Errorf("only %d reaches with one above", tried)
	}
}

// P1.13: the least depth on a way is the least one on its parts, and with one pass more neither end is greater.
func TestPartsOfWays(t *testing.T) {
	d := newDice(26)
	for range 500 {
		r := d.river()
		sides := d.sides(r)
		way := d.way(r, sides, d.from(2, 6))
		cut := d.from(1, len(way)-1)
		all, _, _, e := river.Shallowest(r, sides, way)
		first, _, _, f := river.Shallowest(r, sides, way[:cut])
		second, _, _, g := river.Shallowest(r, sides, way[cut:])
		if e != api.OK || f != api.OK || g != api.OK {
			t.Fatal(e, f, g)
		}
		if all != to(min(first.Low, second.Low), min(first.High, second.High)) {
			t.Fatalf("%v, but its parts %v and %v", all, first, second)
		}
		longer := append(slices.Clone(way), d.way(r, sides, 1)...)
		if more, _, _, _ := river.Shallowest(r, sides, longer); more.Low > all.Low || more.High > all.High {
			t.Fatalf("%v, with one pass more %v", all, more)
		}
	}
}

// P1.13: with more hours for a pass Low is not greater, and High not less.
func TestMoreHours(t *testing.T) {
	d := newDice(27)
	for range 500 {
		r := d.river()
		sides := d.sides(r)
		way := d.way(r, sides, d.from(1, 4))
		fewer := slices.Clone(way)
		i := d.from(0, len(way)-1)
		fewer[i].Hours = d.narrower(way[i].Hours)
		more, _, _, _ := river.Shallowest(r, sides, way)
		less, _, _, _ := river.Shallowest(r, sides, fewer)
		if more.Low > less.Low || more.High < less.High {
			t.Fatalf("%v, with more hours %v", less, more)
		}
	}
}

// P1.8 and P1.13: at the pass and the hour that Shallowest returns, the Low of Depth is that of the way, and none before has it.
func TestPlaceOfShallowest(t *testing.T) {
	d := newDice(28)
	for range 500 {
		r := d.river()
		sides := d.sides(r)
		way := d.way(r, sides, d.from(1, 5))
		least, pass, hour, e := river.Shallowest(r, sides, way)
		if e != api.OK {
			t.Fatal(e)
		}
		found := false
		for i, p := range way {
			for at := p.Hours.Low; at <= p.Hours.High && !found; at++ {
				depth, _ := river.Depth(r, sides, p.Place, at)
				found = depth.Low == least.Low
				if found && (i != pass || at != hour) {
					t.Fatalf("pass %d, hour %d; returned are %d and %d", i, at, pass, hour)
				}
			}
		}
		if !found {
			t.Fatalf("the depth %d is nowhere", least.Low)
		}
	}
}
