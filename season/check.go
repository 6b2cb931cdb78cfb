package season

import (
	"iter"

	"pennyfall/api"
)

// within tells whether all numbers are from least to most.
func within(least, most int, numbers ...int) bool {
	for _, n := range numbers {
		if n < least || n > most {
			return false
		}
	}
	return true
}

// amounts returns the least and the greatest Amount of an entry with this Kind and this
// Number. If the Kind is none, no Amount is from the one to the other.
func amounts(e api.SeasonEntry) (int, int) {
	switch e.Kind {
	case api.SeasonPlay, api.SeasonBox:
		return 0, api.MaxSeasonAmount
	case api.SeasonCoin, api.SeasonPlea:
		return 1, api.MaxSeasonAmount
	case api.SeasonBack:
		return 1, e.Number - 1
	}
	return 1, 0
}

// isWrong tells whether an entry is not valid.
func isWrong(e api.SeasonEntry) bool { return CheckEntry(e) != api.OK }

// areInOrder tells whether each entry comes behind the one before it.
func areInOrder(entries []api.SeasonEntry) bool {
	for i, e := range entries {
		if i > 0 && inOrder(entries[i-1], e) >= 0 {
			return false
		}
	}
	return true
}

// first returns the first one that is good, or false if there is none.
func first[T any](all iter.Seq[T], isGood func(x T) bool) (T, bool) {
	for x := range all {
		if isGood(x) {
			return x, true
		}
	}
	var none T
	return none, false
}

// takenOver returns a list in memory of its own.
func takenOver[T any](list []T) []T {
	out := make([]T, len(list))
	copy(out, list)
	return out
}
