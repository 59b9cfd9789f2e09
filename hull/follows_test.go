package hull_test

import (
	"slices"
	"testing"

	"thalweg/api"
	"thalweg/hull"
)

// P2.9: at the mean draft the volume is at least what the hull must displace, and at 1 cm less it is not.
func TestMeanDraftIsLeast(t *testing.T) {
	d, tried := newDice(20), 0
	for range 1000 {
		h := d.hull(d.from(1, 4), 5)
		load, density := d.load(h), d.density()
		f, e := hull.Float(h, load, density)
		if e != api.OK {
			continue
		}
		tried++
		mass, _ := weights(h, load)
		for draft, water := range map[int]int{f.Mean.Low: needed(mass, density.High), f.Mean.High: needed(mass, density.Low)} {
			if volume, e := hull.Volume(h, draft); volume < water || e != api.OK {
				t.Fatalf("%v: volume %d, not %d; error %d", f, volume, water, e)
			}
			if draft == 0 {
				continue
			}
			if volume, e := hull.Volume(h, draft-1); volume >= water || e != api.OK {
				t.Fatalf("%v: volume %d, 1 cm above, of %d; error %d", f, volume, water, e)
			}
		}
	}
	if tried < 100 {
		t.Errorf("only %d hulls float", tried)
	}
}

// P2.9: with a lot more the mean draft is not less.
func TestOneLotMore(t *testing.T) {
	d, tried := newDice(21), 0
	for range 2000 {
		h := d.hull(d.from(1, 4), 5)
		load, density := d.load(h), d.density()
		i := slices.IndexFunc(load, func(n int) bool { return n > 0 })
		if i < 0 {
			continue
		}
		more, e := hull.Float(h, load, density)
		load[i]--
		less, f := hull.Float(h, load, density)
		if e != api.OK || f != api.OK {
			continue
		}
		tried++
		if less.Mean.Low > more.Mean.Low || less.Mean.High > more.Mean.High {
			t.Fatalf("%v, with one lot more %v", less, more)
		}
	}
	if tried < 100 {
		t.Errorf("only %d hulls float", tried)
	}
}

// P2.9: with a greater density no draft is greater; a hull that floats at a density floats at a greater one.
func TestGreaterDensity(t *testing.T) {
	d, tried := newDice(22), 0
	for range 1000 {
		h := d.hull(d.from(1, 4), 5)
		load, density := d.load(h), d.bounds(900, 1050)
		light, e := hull.Float(h, load, density)
		if e != api.OK {
			continue
		}
		tried++
		greater := to(density.Low+d.from(0, 50), density.High+50)
		dense, e := hull.Float(h, load, greater)
		if e != api.OK || dense.Mean.Low > light.Mean.Low || dense.Mean.High > light.Mean.High || dense.Deep.Low > light.Deep.Low || dense.Deep.High > light.Deep.High {
			t.Fatalf("%v at %v, %v at %v, error %d", light, density, dense, greater, e)
		}
	}
	if tried < 100 {
		t.Errorf("only %d hulls float", tried)
	}
}
