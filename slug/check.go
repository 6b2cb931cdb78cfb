package slug

import "pennyfall/api"

// within tells whether all numbers are from least to most.
func within(least, most int, numbers ...int) bool {
	for _, n := range numbers {
		if n < least || n > most {
			return false
		}
	}
	return true
}

// areResults tells whether all numbers are results of weighings.
func areResults(numbers ...int) bool {
	return within(api.SlugRight, api.SlugLeft, numbers...)
}

// checkPans returns the error of a weighing of so many coppers.
func checkPans(coppers int, w []int) api.Errno {
	if len(w) != coppers {
		return api.ErrEqual
	}
	if !within(api.SlugRight, api.SlugLeft, w...) {
		return api.ErrRange
	}
	more := 0
	for _, pan := range w {
		more += pan
	}
	if more != 0 {
		return api.ErrSum
	}
	return api.OK
}
