package ring

import (
	"slices"

	"pennyfall/api"
)

// within tells whether all numbers are from least to most.
func within[N int | int64](least, most N, numbers ...N) bool {
	for _, n := range numbers {
		if n < least || n > most {
			return false
		}
	}
	return true
}

// areInRange tells whether the days of all keys can be.
func areInRange(keys []api.RingKey) bool {
	for _, k := range keys {
		if !within(0, api.MaxRingDay, k.Out, k.Back) || k.Out > k.Back {
			return false
		}
	}
	return true
}

// areQuarrels tells whether each is between two of so many keys, and comes behind
// the one before it.
func areQuarrels(keys int, quarrels [][2]int) bool {
	before := [2]int{-1, -1}
	for _, q := range quarrels {
		if !areIncreasing(keys, q[:]) || slices.Compare(before[:], q[:]) >= 0 {
			return false
		}
		before = q
	}
	return true
}

// areIncreasing tells whether a list has only some of so many keys, strictly
// increasing.
func areIncreasing(keys int, list []int) bool {
	before := -1
	for _, key := range list {
		if !within(before+1, keys-1, key) {
			return false
		}
		before = key
	}
	return true
}

// areApart tells whether no key is twice in a list.
func areApart(list []int) bool {
	var seen [api.MaxRingKeys]bool
	for _, key := range list {
		if seen[key] {
			return false
		}
		seen[key] = true
	}
	return true
}
