package tow_test

import (
	"testing"

	"thalweg/api"
	"thalweg/tow"
)

// truth is the minute in which the bow of a voyage is first at each place of its way, for one truth of the voyage.
type truth map[int]int

// sail follows a voyage in a truth, hectometer by hectometer.
func (d dice) sail(v api.Voyage) truth {
	minute, minutes := d.choose(v.Start), truth{}
	minutes[v.Runs[0].From] = minute
	for _, r := range v.Runs {
		speed, step := d.choose(r.Speed), 1
		minute += d.choose(r.Wait)
		if r.To < r.From {
			step = -1
		}
		begin := minute
		for place := r.From; place != r.To; {
			place += step
			for (minute-begin)*speed < 60*(place-r.From)*step {
				minute++
			}
			minutes[place] = minute
		}
	}
	return minutes
}

// inside returns from when until when a voyage is in a narrow, in a truth.
func (m truth) inside(v api.Voyage, n api.Narrow) api.Bounds {
	tail := 0
	for 100*tail < v.Length {
		tail++
	}
	if v.Runs[0].To > v.Runs[0].From {
		return to(m[n.From], m[n.To+tail])
	}
	return to(m[n.To], m[n.From-tail])
}

// contains reports whether a number is within bounds.
func contains(b api.Bounds, n int) bool { return b.Low <= n && n <= b.High }

// P3.11: in each truth the bow is at a place in a minute within the bounds of Arrive.
func TestArriveInTruth(t *testing.T) {
	d, low, high := newDice(34), 0, 0
	for range 200 {
		v := d.voyage()
		for range 20 {
			for place, minute := range d.sail(v) {
				b, e := tow.Arrive(v, place)
				if e != api.OK || !contains(b, minute) {
					t.Fatalf("%v: at %d in %d, not %v; error %d", v, place, minute, b, e)
				}
				if minute == b.Low {
					low++
				}
				if minute == b.High {
					high++
				}
			}
		}
	}
	if low < 100 || high < 100 {
		t.Errorf("only %d and %d minutes are ends of the bounds", low, high)
	}
}

// extremes returns the truths in which a voyage is as early, and as late, as it can be.
func extremes(v api.Voyage) (early, late api.Voyage) {
	early, late = v, v
	early.Start, late.Start = at(v.Start.Low), at(v.Start.High)
	early.Runs, late.Runs = nil, nil
	for _, r := range v.Runs {
		early.Runs = append(early.Runs, run(r.From, r.To, at(r.Speed.High), at(r.Wait.Low)))
		late.Runs = append(late.Runs, run(r.From, r.To, at(r.Speed.Low), at(r.Wait.High)))
	}
	return early, late
}

// P3.5 and P3.6: both ends of all bounds are true in some truth.
func TestEndsAreTrue(t *testing.T) {
	d := newDice(35)
	for range 200 {
		v, n := d.voyage(), d.narrow()
		early, late := extremes(v)
		first, last := d.sail(early), d.sail(late)
		for place := range 61 {
			if b, e := tow.Arrive(v, place); b != to(first[place], last[place]) || e != api.OK {
				t.Fatalf("%v at %d: %v, not %d to %d; error %d", v, place, b, first[place], last[place], e)
			}
		}
		in, out, passes, e := tow.Through(v, n)
		a, z := first.inside(v, n), last.inside(v, n)
		if in != to(a.Low, z.Low) || out != to(a.High, z.High) || !passes || e != api.OK {
			t.Fatalf("%v in %v: %v, %v, %t, error %d; not %v, %v", v, n, in, out, passes, e, a, z)
		}
	}
}

// P3.11: voyages that may not meet are never both in the narrow in a minute, and those that must meet are, in each truth.
func TestMeetInTruth(t *testing.T) {
	d, count := newDice(36), map[[2]bool]int{}
	for range 2000 {
		a, b, n := d.voyage(), d.voyage(), d.narrow()
		may, must, e := tow.Meet(a, b, n)
		if e != api.OK || must && !may {
			t.Fatalf("%t, %t, error %d", may, must, e)
		}
		count[[2]bool{may, must}]++
		for range 10 {
			x, y := d.sail(a).inside(a, n), d.sail(b).inside(b, n)
			both := max(x.Low, y.Low) <= min(x.High, y.High)
			if both && !may || !both && must {
				t.Fatalf("%v and %v in %v: %t, %t, but %v and %v", a, b, n, may, must, x, y)
			}
		}
	}
	for _, kind := range [][2]bool{{false, false}, {true, false}, {true, true}} {
		if count[kind] < 50 {
			t.Errorf("only %d of %v", count[kind], kind)
		}
	}
}
