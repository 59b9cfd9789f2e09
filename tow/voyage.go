package tow

import (
	"thalweg/api"
	"thalweg/numbers"
)

// Check returns OK if a voyage is valid.
func Check(v api.Voyage) api.Errno {
	if !numbers.Valid(v.Start, 0, api.MaxMinute) || !numbers.Within(1, api.MaxRuns, len(v.Runs)) {
		return api.ErrArg
	}
	if !numbers.Within(1, api.MaxTowLength, v.Length) || !numbers.Within(1, api.MaxTowWidth, v.Width) {
		return api.ErrArg
	}
	if !numbers.Every(v.Runs, validRun) || !joined(v.Runs) {
		return api.ErrArg
	}
	return api.OK
}

// validRun reports whether a valid voyage can have a run.
func validRun(r api.Run) bool {
	return numbers.Within(0, api.MaxPlace, r.From, r.To) && r.From != r.To &&
		numbers.Valid(r.Speed, 1, api.MaxSpeed) &&
		numbers.Valid(r.Wait, 0, api.MaxWait)
}

// joined reports whether each run begins where the one before ends, and goes in the same direction.
func joined(runs []api.Run) bool {
	for i := 1; i < len(runs); i++ {
		if runs[i].From != runs[i-1].To || down(runs[i]) != down(runs[i-1]) {
			return false
		}
	}
	return true
}

// down reports whether a run goes down.
func down(r api.Run) bool { return r.From < r.To }

// covers reports whether all places are between two places.
func covers(a, b int, places ...int) bool {
	return numbers.Within(min(a, b), max(a, b), places...)
}

// ends returns the places between which a voyage goes.
func ends(v api.Voyage) (from, to int) {
	return v.Runs[0].From, v.Runs[len(v.Runs)-1].To
}

// onWay reports whether all places are on the way of a voyage.
func onWay(v api.Voyage, places ...int) bool {
	from, to := ends(v)
	return covers(from, to, places...)
}

// until returns how many minutes pass from the beginning of a run until the bow is at a place of it that is not its first one.
func until(r api.Run, place int) api.Bounds {
	way := max(place-r.From, r.From-place)
	return api.Bounds{
		Low:  r.Wait.Low + numbers.Up(60*way, r.Speed.High),
		High: r.Wait.High + numbers.Up(60*way, r.Speed.Low),
	}
}

// arrive returns when the bow of a valid voyage is first at a place on its way.
func arrive(v api.Voyage, place int) api.Bounds {
	minute, bow := v.Start, v.Runs[0].From
	for _, r := range v.Runs {
		if bow == place {
			break // before it waits for this run
		}
		bow = r.To
		if covers(r.From, r.To, place) {
			bow = place
		}
		minute = numbers.Sum(minute, until(r, bow))
	}
	return minute
}

// Arrive returns when the bow of a tow is at a place.
func Arrive(v api.Voyage, place int) (api.Bounds, api.Errno) {
	if e := Check(v); e != api.OK {
		return api.Bounds{}, e
	}
	if !onWay(v, place) {
		return api.Bounds{}, api.ErrNone
	}
	return arrive(v, place), api.OK
}
