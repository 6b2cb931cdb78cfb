package round

import "pennyfall/api"

// within tells whether all numbers are from least to most.
func within[N int | int64](least, most N, numbers ...N) bool {
	for _, n := range numbers {
		if n < least || n > most {
			return false
		}
	}
	return true
}

// isInRange tells whether all places and steps of a pier can be.
func isInRange(p api.RoundPier) bool {
	for _, s := range p.Stops {
		if !within(0, api.MaxRoundPlace, s.Place) || !within(0, api.MaxRoundStep, s.To) {
			return false
		}
	}
	return within(0, api.MaxRoundPlace, p.Begin)
}

// isInOrder tells whether each stop lies behind the one before it, and none at Begin.
func isInOrder(p api.RoundPier) bool {
	before := int64(-1)
	for _, s := range p.Stops {
		if s.Place <= before || s.Place == p.Begin {
			return false
		}
		before = s.Place
	}
	return true
}

// marks is which stops are marked.
type marks [api.MaxRoundStops]bool

// areApart tells whether a list has only stops of so many ones, none of them twice.
func areApart(many int, stops []int) bool {
	var seen marks
	for _, stop := range stops {
		if !within(0, many-1, stop) || seen[stop] {
			return false
		}
		seen[stop] = true
	}
	return true
}

// areNumbers tells whether all numbers of bounds can be.
func areNumbers(bounds [][][2]int64) bool {
	for _, row := range bounds {
		for _, pair := range row {
			if !within(late, api.MaxRoundStep, pair[:]...) {
				return false
			}
		}
	}
	return true
}
