package drum

// within tells whether all numbers are from least to most.
func within(least, most int, numbers ...int) bool {
	for _, n := range numbers {
		if n < least || n > most {
			return false
		}
	}
	return true
}

// areIncreasing tells whether all numbers are from least to most, strictly increasing.
func areIncreasing(least, most int, numbers ...int) bool {
	for _, n := range numbers {
		if !within(least, most, n) {
			return false
		}
		least = n + 1
	}
	return true
}
