package wash_test

import (
	"slices"
	"testing"

	"thalweg/api"
	"thalweg/wash"
)

// appended returns a history after which cargoes are carried as planned.
func appended(l []api.TankEvent, jobs, washes []int) []api.TankEvent {
	l = slices.Clone(l)
	for i, kind := range washes {
		if kind >= 0 {
			l = append(l, clean(kind))
		}
		l = append(l, load(jobs[i]))
	}
	return l
}

// breachesFrom returns how many breaches Audit finds from an event on.
func breachesFrom(t *testing.T, r api.WashRules, l []api.TankEvent, event int) int {
	breaches, e := wash.Audit(r, l)
	if e != api.OK {
		t.Fatalf("%v, %v: error %d", r, l, e)
	}
	n := 0
	for _, b := range breaches {
		if b.Event >= event {
			n++
		}
	}
	return n
}

// P5.12: Audit returns no breach at the events of a plan.
func TestPlansHaveNoBreach(t *testing.T) {
	d, planned := newDice(11), 0
	for range 3000 {
		r := d.rules(6, 4)
		l, jobs := d.history(r, 30), d.jobs(r, d.from(1, 10))
		if washes, _, _, e := wash.Plan(r, l, jobs); e == api.OK {
			planned++
			if n := breachesFrom(t, r, appended(l, jobs, washes), len(l)); n > 0 {
				t.Fatalf("%v, %v, %v: %v has %d breaches", r, l, jobs, washes, n)
			}
		}
		tanks := d.histories(r, 3, 10)
		jobs = jobs[:min(len(jobs), 6)]
		list, _, _, e := wash.Fleet(r, tanks, jobs)
		if e != api.OK {
			continue
		}
		for i, l := range tanks {
			var own, washes []int
			for j, s := range list {
				if s.Tank == i {
					own, washes = append(own, jobs[j]), append(washes, s.Wash)
				}
			}
			if n := breachesFrom(t, r, appended(l, own, washes), len(l)); n > 0 {
				t.Fatalf("%v, %v, %v: %v has %d breaches in tank %d", r, tanks, jobs, list, n, i)
			}
		}
	}
	if planned < 300 {
		t.Errorf("only %d plans", planned)
	}
}

// inOneTank returns the steps with some cleanings, in tank 0.
func inOneTank(washes []int) []api.WashStep {
	var list []api.WashStep
	for _, kind := range washes {
		list = append(list, step(0, kind))
	}
	return list
}

// P5.13: no steps that Verify accepts have fewer cleanings than the plan, or as many for less; Verify accepts the plan itself, and tells its cost.
func TestNothingIsBetter(t *testing.T) {
	d, planned, accepted := newDice(12), 0, 0
	for range 1500 {
		r := d.rules(4, 3)
		tanks := d.histories(r, d.from(1, 3), 6)
		jobs := d.jobs(r, d.from(1, 6))
		list, cost, _, e := wash.Fleet(r, tanks, jobs)
		if len(tanks) == 1 {
			var washes []int
			washes, cost, _, e = wash.Plan(r, tanks[0], jobs)
			list = inOneTank(washes)
		}
		fewest := 0
		if e == api.OK {
			planned++
			at, washes, sum, f := wash.Verify(r, tanks, jobs, list)
			if fewest = washes; at != -1 || sum != cost || f != api.OK {
				t.Fatalf("%v, %v, %v, %v: at %d, cost %d, error %d", r, tanks, jobs, list, at, sum, f)
			}
		}
		for range 50 {
			other := d.steps(r, len(tanks), len(jobs))
			at, washes, sum, f := wash.Verify(r, tanks, jobs, other)
			if at != -1 || f != api.OK {
				continue
			}
			accepted++
			if e != api.OK || washes < fewest || washes == fewest && sum < cost {
				t.Fatalf("%v, %v, %v: %v is better than %v, error %d", r, tanks, jobs, other, list, e)
			}
		}
	}
	if planned < 300 || accepted < 2000 {
		t.Errorf("only %d plans, and %d accepted steps", planned, accepted)
	}
}

// P5.14: Fewest never falls, is at most one for each cargo, and tells the cleanings of the plan at the end.
func TestFewestNeverFalls(t *testing.T) {
	d, planned := newDice(13), 0
	for range 3000 {
		r := d.rules(6, 4)
		l, jobs := d.history(r, 30), d.jobs(r, d.from(1, 10))
		fewest, _, e := wash.Fewest(r, l, jobs)
		if e != api.OK {
			continue
		}
		planned++
		if !slices.IsSorted(fewest) || len(fewest) != len(jobs) {
			t.Fatalf("%v, %v, %v: %v", r, l, jobs, fewest)
		}
		for j, n := range fewest {
			if n < 0 || n > j+1 {
				t.Fatalf("%v, %v, %v: %v", r, l, jobs, fewest)
			}
		}
		washes, _, _, _ := wash.Plan(r, l, jobs)
		if n := len(jobs) - len(slices.DeleteFunc(washes, func(kind int) bool { return kind >= 0 })); n != fewest[len(jobs)-1] {
			t.Fatalf("%v, %v, %v: %v, but the plan has %d cleanings", r, l, jobs, fewest, n)
		}
	}
	if planned < 300 {
		t.Errorf("only %d plans", planned)
	}
}

// cleanings returns how many steps have a cleaning.
func cleanings(list []api.WashStep) int {
	n := 0
	for _, s := range list {
		if s.Wash >= 0 {
			n++
		}
	}
	return n
}

// P5.15: with one tank Fleet returns its plan, and with one tank more at the end no more cleanings.
func TestMoreTanks(t *testing.T) {
	d, planned, fewer := newDice(14), 0, 0
	for range 3000 {
		r := d.rules(6, 3)
		tanks := d.histories(r, 3, 8)
		jobs := d.jobs(r, d.from(1, 6))
		washes, cost, at, e := wash.Plan(r, tanks[0], jobs)
		list, sum, first, f := wash.Fleet(r, tanks[:1], jobs)
		if !slices.Equal(list, inOneTank(washes)) || sum != cost || first != at || f != e {
			t.Fatalf("%v, %v, %v: %v, cost %d, at %d, error %d, not %v", r, tanks, jobs, list, sum, first, f, washes)
		}
		for n := 2; n <= 3; n++ {
			more, _, _, g := wash.Fleet(r, tanks[:n], jobs)
			if f == api.OK && (g != api.OK || cleanings(more) > cleanings(list)) {
				t.Fatalf("%v, %v, %v: %v with %d tanks, but %v with one less", r, tanks, jobs, more, n, list)
			}
			if f == api.OK {
				planned++
				fewer += cleanings(list) - cleanings(more)
			}
			list, f = more, g
		}
	}
	if planned < 300 || fewer < 100 {
		t.Errorf("only %d plans, with %d cleanings less", planned, fewer)
	}
}

// P5.16: with stronger cleanings, or looser rules, there is still a plan, and it needs no more cleanings.
func TestLooserRules(t *testing.T) {
	d, planned, fewer := newDice(15), 0, 0
	for range 6000 {
		r := d.rules(4, 3)
		tanks := d.histories(r, d.from(1, 3), 6)
		jobs := d.jobs(r, d.from(1, 6))
		list, _, _, e := wash.Fleet(r, tanks, jobs)
		if e != api.OK {
			continue
		}
		planned++
		p, c := d.Intn(len(r.Levels)), d.Intn(len(r.Levels))
		switch n := d.Intn(3); {
		case n == 0 && len(r.Kinds) > 0:
			power := &r.Kinds[d.Intn(len(r.Kinds))].Power
			power.Low = d.from(power.Low, power.High)
		case n == 1:
			r.Allow[p][c] += d.from(0, 5)
		default:
			r.Apart[p][c] = d.from(0, r.Apart[p][c])
		}
		other, _, _, f := wash.Fleet(r, tanks, jobs)
		if f != api.OK || cleanings(other) > cleanings(list) {
			t.Fatalf("%v, %v, %v: %v, error %d, but with stricter rules %v", r, tanks, jobs, other, f, list)
		}
		fewer += cleanings(list) - cleanings(other)
		if len(tanks) == 1 {
			if _, _, e := wash.Fewest(r, tanks[0], jobs); e != api.OK {
				t.Fatalf("%v, %v, %v: error %d", r, tanks, jobs, e)
			}
		}
	}
	if planned < 1000 || fewer < 20 {
		t.Errorf("only %d plans, with %d cleanings less", planned, fewer)
	}
}
