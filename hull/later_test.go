package hull_test

import (
	"testing"

	"thalweg/api"
	"thalweg/hull"
)

// rising returns a passage on a canal that gets deeper, and shallow again now and then.
func rising(way ...api.Pass) api.Passage {
	var depths []api.Bounds
	for _, n := range []int{50, 57, 58, 40, 60, 57, 58, 70, 90, 33} {
		depths = append(depths, to(n, n+100))
	}
	return canal(0, way, depths...)
}

// P2.6: the hull of the examples with one lot lies 58 centimeters deep.
func TestLater(t *testing.T) {
	for name, c := range map[string]struct {
		way   []api.Pass
		keel  int
		hours int
		e     api.Errno
	}{
		"at once":             {[]api.Pass{pass(0, 2, 2)}, 0, 0, api.OK},
		"at once, long":       {[]api.Pass{pass(0, 6, 8)}, 0, 0, api.OK},
		"next hour":           {[]api.Pass{pass(0, 1, 1)}, 0, 1, api.OK},
		"not the first hour":  {[]api.Pass{pass(0, 0, 0)}, 0, 2, api.OK},
		"two hours":           {[]api.Pass{pass(0, 0, 1)}, 0, 6, api.OK},
		"three hours":         {[]api.Pass{pass(0, 1, 3)}, 0, 5, api.OK},
		"two passes":          {[]api.Pass{pass(0, 0, 0), pass(3, 2, 2)}, 0, 2, api.OK},
		"two that never fit":  {[]api.Pass{pass(0, 1, 1), pass(3, 3, 3)}, 12, 0, api.ErrNone},
		"with a keel":         {[]api.Pass{pass(0, 0, 0)}, 12, 7, api.OK},
		"until the last hour": {[]api.Pass{pass(0, 1, 1), pass(3, 0, 0)}, 12, 7, api.OK},
		"too deep":            {[]api.Pass{pass(0, 0, 0)}, 33, 0, api.ErrNone},
		"in the last hour":    {[]api.Pass{pass(0, 9, 9)}, 0, 0, api.ErrNone},
		"beyond the forecast": {[]api.Pass{pass(0, 0, 3)}, 0, 0, api.ErrNone},
		"a pass at its end":   {[]api.Pass{pass(0, 1, 1), pass(3, 9, 9)}, 0, 0, api.ErrNone},
		"no greater keel":     {[]api.Pass{pass(0, 8, 8)}, 32, 0, api.OK},
	} {
		p := rising(c.way...)
		p.Keel = c.keel
		got, e := hull.Later(example(), []int{0, 1}, to(1000, 1000), p)
		if got != c.hours || e != c.e {
			t.Errorf("%s: %d, error %d", name, got, e)
		}
	}
}

// P2.6: in the last hour of the forecast a hull can still pass.
func TestLaterToTheEnd(t *testing.T) {
	p := canal(0, []api.Pass{pass(0, 0, 0), pass(0, 1, 1)}, to(0, 0), to(0, 0), to(58, 58), to(58, 58))
	if got, e := hull.Later(example(), []int{0, 1}, to(1000, 1000), p); got != 2 || e != api.OK {
		t.Errorf("%d, error %d", got, e)
	}
	p.Sides[0][3] = to(57, 58)
	if got, e := hull.Later(example(), []int{0, 1}, to(1000, 1000), p); got != 0 || e != api.ErrNone {
		t.Errorf("too shallow: %d, error %d", got, e)
	}
}

// laterBySearch returns the first k with which the hull surely takes the way, and whether there is one.
func laterBySearch(h api.Hull, load []int, density api.Bounds, p api.Passage) (int, bool) {
	for k := 0; ; k++ {
		surely, _, _, _, e := hull.Safe(h, load, density, delayed(p, k))
		if surely || e != api.OK {
			return k, e == api.OK
		}
	}
}

// P2.6 and P2.12: Later is the first k of all; with each lesser one the hull does not surely take the way.
func TestLaterIsFirst(t *testing.T) {
	d, never, kinds := newDice(8), 0, map[int]int{}
	for range 4000 {
		h, p := d.hull(d.from(1, 3), 4), d.passage(200)
		load, density := d.load(h), d.density()
		if _, e := hull.Float(h, load, density); e != api.OK {
			continue
		}
		want, found := laterBySearch(h, load, density, p)
		got, e := hull.Later(h, load, density, p)
		if !found {
			never++
			if got != 0 || e != api.ErrNone {
				t.Fatalf("%v with %v on %v: %d, error %d", h, load, p, got, e)
			}
			continue
		}
		kinds[min(want, 2)]++
		if got != want || e != api.OK {
			t.Fatalf("%v with %v on %v: %d, not %d; error %d", h, load, p, got, want, e)
		}
	}
	if never < 100 || kinds[0] < 100 || kinds[1] < 20 || kinds[2] < 20 {
		t.Errorf("never %d, hours %v", never, kinds)
	}
}

// P2.12: with fewer lots, and no moment with both loads, a hull need not wait longer.
func TestLaterWithFewerLots(t *testing.T) {
	d, sooner := newDice(9), 0
	for range 4000 {
		p := d.passage(200)
		n := d.from(1, 4)
		full, e := hull.Later(example(), []int{n, n}, to(950, 1050), p)
		if e != api.OK {
			continue
		}
		less := d.from(0, n-1)
		got, e := hull.Later(example(), []int{less, less}, to(950, 1050), p)
		if got > full || e != api.OK {
			t.Fatalf("%d lots: %d, then %d: %d, error %d", n, full, less, got, e)
		}
		if got < full {
			sooner++
		}
	}
	if sooner < 20 {
		t.Errorf("only %d times sooner", sooner)
	}
}
