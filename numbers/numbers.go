// Package numbers contains what all layers need of numbers, of bounds, and of lists of them.
package numbers

import "thalweg/api"

// Within reports whether all numbers are from low to high.
func Within(low, high int, numbers ...int) bool {
	return Every(numbers, func(n int) bool { return low <= n && n <= high })
}

// Valid reports whether bounds are valid from low to high.
func Valid(b api.Bounds, low, high int) bool {
	return b.Low <= b.High && Within(low, high, b.Low, b.High)
}

// Sum returns bounds of the sum of numbers that are known within bounds.
func Sum(parts ...api.Bounds) api.Bounds {
	total := api.Bounds{}
	for _, b := range parts {
		total.Low += b.Low
		total.High += b.High
	}
	return total
}

// Every reports whether a condition holds for all elements of a list.
func Every[T any](list []T, holds func(T) bool) bool {
	for _, x := range list {
		if !holds(x) {
			return false
		}
	}
	return true
}

// Down returns a / b, rounded down, for b above 0: Go's own division rounds towards 0.
func Down(a, b int) int {
	if a%b < 0 {
		return a/b - 1
	}
	return a / b
}

// Up returns a / b, rounded up, for b above 0.
func Up(a, b int) int {
	return -Down(-a, b)
}
