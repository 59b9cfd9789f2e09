package tow

import (
	"sort"

	"thalweg/api"
	"thalweg/numbers"
)

// canStop reports whether there is a number of meters in which a tow can stop, at any speed that is allowed.
func canStop(mass, power int, grip api.Bounds) bool {
	return numbers.Within(0, api.MaxTowMass, mass) &&
		numbers.Within(1, api.MaxPower, power) &&
		numbers.Valid(grip, 1, api.MaxGrip)
}

// stop returns how many meters a tow that can stop needs for this.
func stop(mass, power int, grip api.Bounds, speed int) api.Bounds {
	meters := func(g int, divide func(a, b int) int) int {
		// The thirds are brought to the other divisor, so that nothing but the sum is rounded: 1/3 is 864/2592.
		return divide(speed*5*864*power*g+mass*1000*speed*speed, 2592*power*g)
	}
	return api.Bounds{Low: meters(grip.High, numbers.Down), High: meters(grip.Low, numbers.Up)}
}

// Stop returns how many meters a tow needs to stop.
func Stop(mass, power int, grip api.Bounds, speed int) (api.Bounds, api.Errno) {
	if !canStop(mass, power, grip) || !numbers.Within(0, api.MaxSpeed, speed) {
		return api.Bounds{}, api.ErrRange
	}
	return stop(mass, power, grip, speed), api.OK
}

// Safe returns the greatest speed at which a tow can stop in its sight.
func Safe(mass, power int, grip api.Bounds, sight int) (int, api.Errno) {
	if !canStop(mass, power, grip) || !numbers.Within(0, api.MaxSight, sight) {
		return 0, api.ErrRange
	}
	// A faster tow needs no less way: the speed is the greatest one if the next one is the first that is not safe.
	return sort.Search(api.MaxSpeed, func(speed int) bool {
		return stop(mass, power, grip, speed+1).High > sight
	}), api.OK
}
