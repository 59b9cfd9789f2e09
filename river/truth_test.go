package river_test

import (
	"math/big"
	"testing"

	"thalweg/api"
	"thalweg/river"
)

// A truth is a river, a forecast and closures in which Low and High of all bounds are the same; the functions here
// say what is true in it, in fractions, and as the chapter says it.

// choose returns bounds that hold only one truth.
func (d dice) choose(b api.Bounds) api.Bounds {
	n := d.truth(b)
	return to(n, n)
}

// trueFlow returns the flow of a reach in an hour of a truth.
func trueFlow(r api.River, sides [][]api.Bounds, reach, hour int) int {
	if hour < 0 {
		return r.Reaches[reach].Base.Low
	}
	flow := sides[reach][hour].Low
	if reach > 0 {
		flow += trueFlow(r, sides, reach-1, hour-r.Reaches[reach-1].Delay)
	}
	return flow
}

// trueLevel returns the level of a reach at a flow.
func trueLevel(x api.Reach, flow int) *big.Rat {
	level := big.NewRat(int64(x.Curve[0].Level), 1)
	for i := 1; i < len(x.Curve); i++ {
		a, b := x.Curve[i-1], x.Curve[i]
		if flow > a.Flow {
			part := big.NewRat(int64(min(flow, b.Flow)-a.Flow), int64(b.Flow-a.Flow))
			level.Add(level, part.Mul(part, big.NewRat(int64(b.Level-a.Level), 1)))
		}
	}
	return greater(level, big.NewRat(int64(x.Weir), 1))
}

// trueBed returns how high the bed is at a place in an hour of a truth.
func trueBed(r api.River, place, hour int) *big.Rat {
	bed := big.NewRat(int64(r.Reaches[reachOf(r, place)].Bottom.Low), 1)
	for _, s := range r.Shoals {
		if s.Place == place {
			grown := big.NewRat(int64(s.Grow.Low)*int64(max(hour-s.Sounded, 0)), 24)
			bed = greater(bed, grown.Add(grown, big.NewRat(int64(s.Bed.Low), 1)))
		}
	}
	return bed
}

// trueDepth returns how deep the water is at a place in an hour of a truth.
func trueDepth(r api.River, sides [][]api.Bounds, place, hour int) *big.Rat {
	reach := reachOf(r, place)
	level := trueLevel(r.Reaches[reach], trueFlow(r, sides, reach, hour))
	return greater(level.Sub(level, trueBed(r, place, hour)), new(big.Rat))
}

// reachOf returns the number of the reach of a place.
func reachOf(r api.River, place int) int {
	for i, x := range r.Reaches {
		if place < x.Length {
			return i
		}
		place -= x.Length
	}
	return -1
}

func greater(a, b *big.Rat) *big.Rat {
	if a.Cmp(b) < 0 {
		return b
	}
	return a
}

// contain reports whether a number is within bounds.
func contain(b api.Bounds, n *big.Rat) bool {
	return big.NewRat(int64(b.Low), 1).Cmp(n) <= 0 && n.Cmp(big.NewRat(int64(b.High), 1)) <= 0
}

// whole returns a whole number as a fraction.
func whole(n int) *big.Rat { return big.NewRat(int64(n), 1) }

// P1.10: in each truth the flows, levels, beds and depths are within the bounds that are returned.
func TestTruthsAreWithinBounds(t *testing.T) {
	d := newDice(10)
	for range 300 {
		r := d.river()
		sides := d.sides(r)
		flows, e := river.Flows(r, sides)
		levels, f := river.Levels(r, sides)
		if e != api.OK || f != api.OK {
			t.Fatal(e, f)
		}
		for range 10 {
			truth, water := mapRiver(r, d.choose), mapSides(sides, d.choose)
			for i, x := range truth.Reaches {
				for hour := range sides[i] {
					flow := trueFlow(truth, water, i, hour)
					if !contain(flows[i][hour], whole(flow)) || !contain(levels[i][hour], trueLevel(x, flow)) {
						t.Fatalf("%v: flow %d, not %v, or level not %v", x, flow, flows[i][hour], levels[i][hour])
					}
				}
			}
			place, hour := d.from(0, places(r)-1), d.from(0, len(sides[0])-1)
			bed, _ := river.Bed(r, place, hour)
			depth, _ := river.Depth(r, sides, place, hour)
			if n := trueBed(truth, place, hour); !contain(bed, n) {
				t.Fatalf("bed %s at %d is not in %v", n, place, bed)
			}
			if n := trueDepth(truth, water, place, hour); !contain(depth, n) {
				t.Fatalf("depth %s at %d is not in %v", n, place, depth)
			}
		}
	}
}

// P1.4, P1.6 and P1.7: the bounds are no wider than the truths at both ends need, rounded to whole numbers.
func TestBoundsAreTight(t *testing.T) {
	d := newDice(11)
	low, high := func(b api.Bounds) api.Bounds { return to(b.Low, b.Low) }, func(b api.Bounds) api.Bounds { return to(b.High, b.High) }
	near := func(a int, b *big.Rat) bool {
		gap := whole(a)
		return gap.Sub(gap, b).Abs(gap).Cmp(whole(1)) < 0
	}
	for range 1000 {
		r := d.river()
		sides := d.sides(r)
		place, hour := d.from(0, places(r)-1), d.from(0, len(sides[0])-1)
		reach := reachOf(r, place)
		least, most := mapRiver(r, low), mapRiver(r, high)
		lowFlow, highFlow := trueFlow(least, mapSides(sides, low), reach, hour), trueFlow(most, mapSides(sides, high), reach, hour)
		lowLevel, highLevel := trueLevel(r.Reaches[reach], lowFlow), trueLevel(r.Reaches[reach], highFlow)
		flows, _ := river.Flows(r, sides)
		levels, _ := river.Levels(r, sides)
		bed, _ := river.Bed(r, place, hour)
		depth, _ := river.Depth(r, sides, place, hour)
		if flows[reach][hour] != to(lowFlow, highFlow) {
			t.Fatalf("flow %v", flows[reach][hour])
		}
		if level := levels[reach][hour]; !near(level.Low, lowLevel) || !near(level.High, highLevel) {
			t.Fatalf("level %v, not %s to %s", level, lowLevel, highLevel)
		}
		if a, b := trueBed(least, place, hour), trueBed(most, place, hour); !near(bed.Low, a) || !near(bed.High, b) {
			t.Fatalf("bed %v, not %s to %s", bed, a, b)
		}
		if level := levels[reach][hour]; depth != to(max(level.Low-bed.High, 0), max(level.High-bed.Low, 0)) {
			t.Fatalf("depth %v with the level %v and the bed %v", depth, level, bed)
		}
	}
}

// P1.10: the least depth on a way is within the bounds of Shallowest, whichever of its hours each place is passed in.
func TestTrueWays(t *testing.T) {
	d := newDice(12)
	for range 1000 {
		r := d.river()
		sides := d.sides(r)
		way := d.way(r, sides, d.from(1, 4))
		bounds, _, _, e := river.Shallowest(r, sides, way)
		if e != api.OK {
			t.Fatal(e)
		}
		truth, water := mapRiver(r, d.choose), mapSides(sides, d.choose)
		least := whole(api.MaxLevel)
		for _, p := range way {
			depth := trueDepth(truth, water, p.Place, d.truth(p.Hours))
			if depth.Cmp(least) < 0 {
				least = depth
			}
		}
		if !contain(bounds, least) {
			t.Fatalf("%s is not in %v", least, bounds)
		}
	}
}

// P1.10: a place that is surely closed is closed in each truth, and one that is closed in a truth is possibly closed.
func TestTrueClosures(t *testing.T) {
	d := newDice(13)
	closedAndNot := map[bool]int{}
	for range 3000 {
		r := d.river()
		sides := d.sides(r)
		var l []api.Closure
		for range d.from(0, 2) {
			where := d.bounds(0, places(r)-1)
			l = append(l, shut(where.Low, where.High, d.bounds(-2, 6), d.bounds(0, 10)))
		}
		place, hour := d.from(0, places(r)-1), d.from(0, len(sides[0])-1)
		possibly, surely, e := river.Closed(r, sides, l, place, hour)
		if e != api.OK {
			t.Fatal(e)
		}
		truth, water := mapRiver(r, d.choose), mapSides(sides, d.choose)
		x := truth.Reaches[reachOf(r, place)]
		closed := trueLevel(x, trueFlow(truth, water, reachOf(r, place), hour)).Cmp(whole(x.Flood)) > 0
		for _, c := range l {
			closed = closed || c.From <= place && place <= c.To && d.truth(c.Begin) <= hour && hour < d.truth(c.End)
		}
		closedAndNot[closed]++
		if surely && !closed || closed && !possibly {
			t.Fatalf("closed %t, surely %t, possibly %t", closed, surely, possibly)
		}
	}
	if closedAndNot[true] < 100 || closedAndNot[false] < 100 {
		t.Errorf("too few truths of a kind: %v", closedAndNot)
	}
}

// trueRunoff returns ten times the runoff in each hour of a truth, and how much snow has melted in all.
func trueRunoff(c api.Catch, snow int, rain, heat []int) (runoff []int, melted int) {
	for hour := range rain {
		melt := min(c.Melt*max(heat[hour], 0), snow-melted)
		melted += melt
		runoff = append(runoff, c.Area*(rain[hour]+melt)*c.Percent)
	}
	return runoff, melted
}

// P1.2, P1.10 and P1.12: with few truths, the bounds of each hour are from the least runoff of all of them to the greatest, and no more snow melts than there is.
func TestAllTruthsOfRunoff(t *testing.T) {
	d := newDice(14)
	for range 300 {
		c := api.Catch{Area: d.from(0, 7), Percent: d.from(0, 30), Melt: d.from(0, 3), Snow: d.bounds(0, 6)}
		hours := make([]api.SkyHour, 3)
		for i := range hours {
			hours[i] = sky(to(1, 1+d.from(0, 1)), d.bounds(-1, 3))
		}
		least, most := []int{1 << 60, 1 << 60, 1 << 60}, []int{0, 0, 0}
		eachTruth(hours, nil, nil, func(rain, heat []int) {
			for snow := c.Snow.Low; snow <= c.Snow.High; snow++ {
				runoff, melted := trueRunoff(c, snow, rain, heat)
				if melted > snow {
					t.Fatalf("%d of %d melted", melted, snow)
				}
				for i, n := range runoff {
					least[i], most[i] = min(least[i], n), max(most[i], n)
				}
			}
		})
		got, e := river.Runoff(c, hours)
		if e != api.OK || len(got) != len(hours) {
			t.Fatal(got, e)
		}
		for i, b := range got {
			if b.Low != least[i]/10 || b.High != (most[i]+9)/10 {
				t.Fatalf("%v, %v: hour %d: %v, not %d to %d tenths", c, hours, i, b, least[i], most[i])
			}
		}
	}
}

// eachTruth calls visit with the rain and the temperatures of each truth of a sky.
func eachTruth(hours []api.SkyHour, rain, heat []int, visit func(rain, heat []int)) {
	if len(rain) == len(hours) {
		visit(rain, heat)
		return
	}
	h := hours[len(rain)]
	for wet := h.Rain.Low; wet <= h.Rain.High; wet++ {
		for warm := h.Heat.Low; warm <= h.Heat.High; warm++ {
			eachTruth(hours, append(rain[:len(rain):len(rain)], wet), append(heat[:len(heat):len(heat)], warm), visit)
		}
	}
}
