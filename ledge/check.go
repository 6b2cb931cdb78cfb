package ledge

import "pennyfall/api"

// within tells whether all numbers are from least to most.
func within(least, most int, numbers ...int) bool {
	for _, n := range numbers {
		if n < least || n > most {
			return false
		}
	}
	return true
}

// isLedge tells whether a ledge may have so many places.
func isLedge(places int) bool {
	return within(1, api.MaxLedgePlaces, places)
}

// arePlaces tells whether all numbers are places of a ledge.
func arePlaces(places int, numbers ...int) bool {
	return within(0, places-1, numbers...)
}

// areIncreasing tells whether a list is strictly increasing.
func areIncreasing(list []int) bool {
	for i := 1; i < len(list); i++ {
		if list[i] <= list[i-1] {
			return false
		}
	}
	return true
}
