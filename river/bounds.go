package river

import "thalweg/api"

// sum returns bounds of the sum of numbers that are known within bounds.
func sum(parts ...api.Bounds) api.Bounds {
	total := api.Bounds{}
	for _, b := range parts {
		total.Low += b.Low
		total.High += b.High
	}
	return total
}
