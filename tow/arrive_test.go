package tow_test

import (
	"testing"

	"thalweg/api"
	"thalweg/tow"
)

// stages returns a voyage of three runs: the second one is slow, and all begin with a wait.
func stages() api.Voyage {
	return voyage(to(100, 110), 100,
		run(10, 20, to(60, 120), to(5, 7)),
		run(20, 22, to(7, 8), to(0, 30)),
		run(22, 30, at(400), at(1)),
	)
}

// mirrored returns a voyage that goes from 100 - x instead of x.
func mirrored(v api.Voyage) api.Voyage {
	m := v
	m.Runs = nil
	for _, r := range v.Runs {
		m.Runs = append(m.Runs, run(100-r.From, 100-r.To, r.Speed, r.Wait))
	}
	return m
}

// P3.5 and example 4: when the bow is at a place; a voyage that goes up is at the places of its mirror in the same minutes.
func TestArrive(t *testing.T) {
	for name, c := range map[string]struct {
		v     api.Voyage
		place int
		want  api.Bounds
	}{
		"example 4":               {downward(), 50, to(30, 70)},
		"before the first wait":   {stages(), 10, to(100, 110)},
		"behind the first wait":   {stages(), 11, to(106, 118)},
		"rounded up":              {downward(), 1, to(1, 12)},
		"both rounded up":         {downward(), 4, to(3, 15)},
		"end of the first run":    {stages(), 20, to(110, 127)},
		"behind the second wait":  {stages(), 21, to(118, 166)},
		"end of the second run":   {stages(), 22, to(125, 175)},
		"in the last run":         {stages(), 29, to(128, 178)}, // 60 * 7 / 400 is 1.05
		"end of the last run":     {stages(), 30, to(128, 178)},
		"each run is rounded":     {long(20, 0, 1), 20, at(20)},
		"each run is rounded up":  {voyage(at(0), 1, run(0, 1, at(400), at(0)), run(1, 2, at(400), at(0))), 2, at(2)},
		"but a run only once":     {voyage(at(0), 1, run(0, 2, at(400), at(0))), 2, at(1)},
		"late, slow and far":      {voyage(at(1000000), 1, run(0, 100000, at(1), at(5000))), 100000, at(7005000)},
		"start, without the wait": {voyage(to(3, 4), 1, run(0, 1, at(60), to(7, 9))), 0, to(3, 4)},
		"the wait, then the run":  {voyage(to(3, 4), 1, run(0, 1, at(60), to(7, 9))), 1, to(11, 14)},
	} {
		if got, e := tow.Arrive(c.v, c.place); got != c.want || e != api.OK {
			t.Errorf("%s: %v, error %d; not %v", name, got, e, c.want)
		}
		if m := mirrored(c.v); tow.Check(m) == api.OK {
			if got, e := tow.Arrive(m, 100-c.place); got != c.want || e != api.OK {
				t.Errorf("%s, up: %v, error %d; not %v", name, got, e, c.want)
			}
		}
	}
	if got, e := tow.Arrive(upward(), 39); got != at(57) || e != api.OK {
		t.Errorf("example 5: %v, error %d", got, e)
	}
}

// P3.5: there are no minutes for places that are not on the way.
func TestArriveElsewhere(t *testing.T) {
	for _, v := range []api.Voyage{stages(), mirrored(mirrored(stages()))} {
		expect(t, "before the first run", arrive(v, 9), api.ErrNone)
		expect(t, "behind the last run", arrive(v, 31), api.ErrNone)
		expect(t, "first place", arrive(v, 10), api.OK)
		expect(t, "last place", arrive(v, 30), api.OK)
	}
	up := mirrored(stages())
	expect(t, "up: before the first run", arrive(up, 91), api.ErrNone)
	expect(t, "up: behind the last run", arrive(up, 69), api.ErrNone)
	expect(t, "up: first place", arrive(up, 90), api.OK)
	expect(t, "up: last place", arrive(up, 70), api.OK)
	expect(t, "below 0", arrive(downward(), -1), api.ErrNone)
	expect(t, "0", arrive(downward(), 0), api.OK)
}
