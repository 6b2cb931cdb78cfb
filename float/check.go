package float

// within tells whether all numbers are from least to most.
func within(least, most int64, numbers ...int64) bool {
	for _, n := range numbers {
		if n < least || n > most {
			return false
		}
	}
	return true
}

// areIncreasing tells whether each of some numbers is greater than the one before it.
func areIncreasing(numbers []int64) bool {
	for i, n := range numbers {
		if i > 0 && n <= numbers[i-1] {
			return false
		}
	}
	return true
}
