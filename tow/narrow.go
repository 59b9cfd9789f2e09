package tow

import (
	"thalweg/api"
	"thalweg/numbers"
)

// stay is when a voyage is in a narrow: from the minute in until the minute out.
type stay struct {
	in, out api.Bounds
	passes  bool
}

// validNarrow reports whether a narrow is valid.
func validNarrow(n api.Narrow) bool {
	return numbers.Within(0, api.MaxPlace, n.From, n.To) && n.From < n.To && numbers.Within(1, api.MaxTowWidth, n.Width)
}

// gates returns where the bow of a voyage is when the tow enters a narrow, and when its tail has left it.
func gates(v api.Voyage, n api.Narrow) (enter, leave int) {
	tail := numbers.Up(v.Length, 100)
	if down(v.Runs[0]) {
		return n.From, n.To + tail
	}
	return n.To, n.From - tail
}

// near reports whether a voyage comes near to a narrow that it enters and leaves at two places.
func near(v api.Voyage, enter, leave int) bool {
	from, to := ends(v)
	return min(from, to) < max(enter, leave) && max(from, to) > min(enter, leave)
}

// visit returns when a voyage is in a narrow, or the errors of Through.
func visit(v api.Voyage, n api.Narrow) (stay, api.Errno) {
	if Check(v) != api.OK || !validNarrow(n) {
		return stay{}, api.ErrArg
	}
	enter, leave := gates(v, n)
	if onWay(v, enter, leave) {
		return stay{arrive(v, enter), arrive(v, leave), true}, api.OK
	}
	if near(v, enter, leave) {
		return stay{}, api.ErrState
	}
	return stay{}, api.OK
}

// Through returns when a tow enters a narrow, and when it has left it.
func Through(v api.Voyage, n api.Narrow) (in, out api.Bounds, passes bool, e api.Errno) {
	s, e := visit(v, n)
	return s.in, s.out, s.passes, e
}

// mayMeet reports whether two voyages may be in a narrow at the same time.
func mayMeet(a, b stay) bool {
	return a.passes && b.passes && a.in.Low <= b.out.High && b.in.Low <= a.out.High
}

// mustMeet reports whether two voyages are in a narrow at the same time, whatever is true.
func mustMeet(a, b stay) bool {
	return a.passes && b.passes && a.in.High <= b.out.Low && b.in.High <= a.out.Low
}

// Meet reports whether two tows may meet, and must meet, in a narrow.
func Meet(a, b api.Voyage, n api.Narrow) (may, must bool, e api.Errno) {
	if Check(a) != api.OK || Check(b) != api.OK {
		return false, false, api.ErrArg
	}
	first, e := visit(a, n)
	if e != api.OK {
		return false, false, e
	}
	second, e := visit(b, n)
	if e != api.OK {
		return false, false, e
	}
	return mayMeet(first, second), mustMeet(first, second), api.OK
}
