package box

import "pennyfall/api"

// within tells whether all numbers are from least to most.
func within[N int | int64](least, most N, numbers ...N) bool {
	for _, n := range numbers {
		if n < least || n > most {
			return false
		}
	}
	return true
}

// isRange tells whether a range is valid, with both ends from least to most.
func isRange(r api.Range, least, most int64) bool {
	return r.Lo <= r.Hi && within(least, most, r.Lo, r.Hi)
}

// isIndex tells whether a list of so many elements has an index.
func isIndex(many, index int) bool { return within(0, many-1, index) }

// isChoice tells whether a list is strictly increasing, and has only indices of
// another list of so many elements.
func isChoice(many int, list []int) bool {
	for i, index := range list {
		if !isIndex(many, index) || i > 0 && index <= list[i-1] {
			return false
		}
	}
	return true
}

// areRanges tells whether all counts and gains are valid.
func areRanges(h api.BoxHall) bool {
	for _, m := range h.Moves {
		if !isRange(m.Count, 0, api.MaxBoxCount) {
			return false
		}
	}
	for _, gain := range h.Gains {
		if !isRange(gain, -api.MaxBoxGain, api.MaxBoxGain) {
			return false
		}
	}
	return true
}

// areMoves tells whether each move leads from a store to another one.
func areMoves(h api.BoxHall) bool {
	for _, m := range h.Moves {
		if m.From == m.To || !within(0, len(h.Gains)-1, m.From, m.To) {
			return false
		}
	}
	return true
}
