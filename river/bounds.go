package river

import "thalweg/api"

// within reports whether all numbers are from low to high.
func within(low, high int, numbers ...int) bool {
	return every(numbers, func(n int) bool { return low <= n && n <= high })
}

// valid reports whether bounds are valid from low to high.
func valid(b api.Bounds, low, high int) bool {
	return b.Low <= b.High && within(low, high, b.Low, b.High)
}

// every reports whether a condition holds for all elements of a list.
func every[T any](list []T, holds func(T) bool) bool {
	for _, x := range list {
		if !holds(x) {
			return false
		}
	}
	return true
}

// sum returns bounds of the sum of numbers that are known within bounds.
func sum(numbers ...api.Bounds) api.Bounds {
	total := api.Bounds{}
	for _, b := range numbers {
		total.Low += b.Low
		total.High += b.High
	}
	return total
}

// down returns a / b, rounded down, for b above 0: Go's own division rounds towards 0.
func down(a, b int) int {
	if a%b < 0 {
		return a/b - 1
	}
	return a / b
}

// up returns a / b, rounded up, for b above 0.
func up(a, b int) int {
	return -down(-a, b)
}
