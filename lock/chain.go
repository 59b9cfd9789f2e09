package lock

import (
	"slices"

	"thalweg/api"
	"thalweg/numbers"
)

// validReach reports whether a reach is valid.
func validReach(x api.LockReach) bool {
	return numbers.Within(0, api.MaxReachVolume, x.Volume, x.Least) && numbers.Valid(x.Inflow, 0, api.MaxReachVolume)
}

// validTraffic reports whether the traffic of a lock is valid.
func validTraffic(x api.LockTraffic) bool {
	return numbers.Within(0, api.MaxFill, x.Fill) && numbers.Valid(x.Cycles, 0, api.MaxDayCycles)
}

// checkChain returns the error of a chain of locks, and of a number of days.
func checkChain(reaches []api.LockReach, locks []api.LockTraffic, days int) api.Errno {
	if len(reaches) > api.MaxLockReaches {
		return api.ErrLong
	}
	if len(reaches) == 0 || len(locks) != len(reaches)-1 {
		return api.ErrForm
	}
	if !numbers.Every(reaches, validReach) || !numbers.Every(locks, validTraffic) {
		return api.ErrArg
	}
	if !numbers.Within(0, api.MaxLockDays, days) {
		return api.ErrRange
	}
	return api.OK
}

// moved returns how much water a lock moves down in a day.
func moved(x api.LockTraffic) api.Bounds {
	return api.Bounds{Low: x.Fill * x.Cycles.Low, High: x.Fill * x.Cycles.High}
}

// change returns by how much the volume of a reach of a valid chain changes in a day.
func change(reaches []api.LockReach, locks []api.LockTraffic, reach int) api.Bounds {
	day := reaches[reach].Inflow
	if reach > 0 {
		day = numbers.Sum(day, moved(locks[reach-1]))
	}
	if reach < len(locks) {
		out := moved(locks[reach])
		day = numbers.Sum(day, api.Bounds{Low: -out.High, High: -out.Low})
	}
	return day
}

// Days returns the bounds of the volumes of the reaches of a chain at the end of each day.
func Days(reaches []api.LockReach, locks []api.LockTraffic, days int) ([][]api.Bounds, api.Errno) {
	if e := checkChain(reaches, locks, days); e != api.OK {
		return nil, e
	}
	volumes := make([]api.Bounds, len(reaches))
	for i, x := range reaches {
		volumes[i] = api.Bounds{Low: x.Volume, High: x.Volume}
	}
	var ends [][]api.Bounds
	for range days {
		for i := range reaches {
			// No numbers of different days or reaches depend on each other: the ends of the sum are the sums of the ends.
			volumes[i] = numbers.Sum(volumes[i], change(reaches, locks, i))
		}
		ends = append(ends, slices.Clone(volumes))
	}
	return ends, api.OK
}

// Short returns the first day and reach at which there can be too little water, and whether there surely is.
func Short(reaches []api.LockReach, locks []api.LockTraffic, days int) (day, reach int, surely bool, e api.Errno) {
	ends, e := Days(reaches, locks, days)
	for i, volumes := range ends {
		for n, volume := range volumes {
			if least := reaches[n].Least; volume.Low < least {
				return i + 1, n, volume.High < least, api.OK
			}
		}
	}
	return 0, 0, false, e
}
