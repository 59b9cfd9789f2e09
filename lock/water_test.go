package lock_test

import (
	"testing"

	"thalweg/api"
	"thalweg/lock"
)

// waters returns by how much the water changes.
func waters(upper, lower, chamber, basin int) api.LockWater {
	return api.LockWater{Upper: upper, Lower: lower, Chamber: chamber, Basin: basin}
}

// P4.3 and example 2: where the water of a plan goes.
func TestWater(t *testing.T) {
	l := example()
	odd, dry, poor := l, l, l
	odd.Fill, odd.Save = 999, 45 // 449.55 are saved
	dry.Fill = 0
	poor.Save = 0
	pushing := rising(0, 250)
	pushing.Push = 700
	for name, c := range map[string]struct {
		l    api.Lock
		tows []api.LockTow
		plan []api.LockStep
		want api.LockWater
	}{
		"example 2":            {l, three(), steps(up(1), down(1), up(1)), waters(-1800, 800, 1000, 0)},
		"example 4":            {l, three(), steps(up(2), down(1)), waters(-1200, 800, 0, 400)},
		"no tows":              {l, nil, nil, waters(0, 0, 0, 0)},
		"no tows, high":        {high(l), nil, nil, waters(0, 0, 0, 0)},
		"filled":               {l, []api.LockTow{rising(0, 1)}, steps(up(1)), waters(-1000, 0, 1000, 0)},
		"emptied":              {high(l), []api.LockTow{sinking(0, 1)}, steps(down(1)), waters(0, 600, -1000, 400)},
		"emptied and filled":   {high(l), []api.LockTow{rising(0, 1)}, steps(up(1)), waters(-600, 600, 0, 0)},
		"filled and emptied":   {l, []api.LockTow{sinking(0, 1)}, steps(down(1)), waters(-1000, 600, 0, 400)},
		"basins are used once": {l, []api.LockTow{rising(0, 1), rising(0, 1), rising(0, 1)}, steps(up(1), up(1), up(1)), waters(-2200, 1200, 1000, 0)},
		"nothing saved":        {poor, three(), steps(up(1), down(1), up(1)), waters(-2200, 1200, 1000, 0)},
		"rounded down":         {odd, []api.LockTow{sinking(0, 1)}, steps(down(1)), waters(-999, 550, 0, 449)},
		"rounded down twice":   {odd, []api.LockTow{sinking(0, 1), sinking(0, 1)}, steps(down(1), down(1)), waters(-999-550, 1100, 0, 449)},
		"no water":             {dry, three(), steps(up(1), down(1), up(1)), waters(-200, 200, 0, 0)},
		"push once, 3 parts":   {l, []api.LockTow{pushing}, steps(up(1)), waters(-1000-600-600-700, 1200+700, 1000, 0)},
	} {
		if w, e := lock.Water(c.l, c.tows, c.plan); w != c.want || e != api.OK {
			t.Errorf("%s: %v, error %d", name, w, e)
		}
	}
}

// P4.9: no water is lost, and the chamber and the basins hold what they can.
func TestNoWaterIsLost(t *testing.T) {
	d, kinds := newDice(41), map[bool]int{}
	for range 2000 {
		l := d.lock()
		tows := d.tows(l, d.from(0, 8))
		plan := d.plan(t, l, tows)
		w, e := lock.Water(l, tows, plan)
		last := l.High
		if len(plan) > 0 {
			last = plan[len(plan)-1].Up
		}
		chamber := 0
		if last && !l.High {
			chamber = l.Fill
		}
		if !last && l.High {
			chamber = -l.Fill
		}
		if w.Upper+w.Lower+w.Chamber+w.Basin != 0 || w.Chamber != chamber || e != api.OK {
			t.Fatalf("%v, %v: %v, error %d", l, plan, w, e)
		}
		if w.Basin < 0 || w.Basin > l.Fill*l.Save/100 {
			t.Fatalf("%v, %v: %d in the basins", l, plan, w.Basin)
		}
		kinds[w.Basin > 0]++
	}
	if kinds[true] < 500 || kinds[false] < 500 {
		t.Errorf("%d plans leave water in the basins, %d none", kinds[true], kinds[false])
	}
}
