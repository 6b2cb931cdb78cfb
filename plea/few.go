package plea

import (
	"iter"
	"slices"

	"pennyfall/api"
)

// choices yields all lists of facts of Seen, those with the fewest facts first, and
// those with as many facts in lexicographic order.
func (d *desk) choices() iter.Seq[[]int] {
	return func(yield func(list []int) bool) {
		for many := range len(d.Seen) + 1 {
			if !choose(nil, d.Seen, many, yield) {
				return
			}
		}
	}
}

// choose yields all lists that have so many of some facts behind a list, in
// lexicographic order. It tells whether to go on.
func choose(list, from []int, many int, yield func(list []int) bool) bool {
	if many == 0 {
		return yield(list)
	}
	for i, fact := range from {
		longer := append(list[:len(list):len(list)], fact) // so that all grow apart
		if !choose(longer, from[i+1:], many-1, yield) {
			return false
		}
	}
	return true
}

// first returns the first element that is good, or ErrNone.
func first[T any](all iter.Seq[T], isGood func(x T) bool) (T, api.Errno) {
	for x := range all {
		if isGood(x) {
			return x, api.OK
		}
	}
	var none T
	return none, api.ErrNone
}

// needed returns the first of the fewest facts of Seen from which rules lead to a
// fact, or ErrNone if they do not even from all.
func (d *desk) needed(fact int) ([]int, api.Errno) {
	return first(d.choices(), func(list []int) bool {
		d.lead(list)
		return d.known[fact]
	})
}

// wrong returns the first of the fewest facts of Seen without which no rule leads to
// a contradiction, or ErrNone if one does even without all.
func (d *desk) wrong() ([]int, api.Errno) {
	return first(d.choices(), func(list []int) bool {
		d.lead(d.without(list))
		return !d.contradicts()
	})
}

// without returns the facts of Seen that a list does not have.
func (d *desk) without(list []int) []int {
	return slices.DeleteFunc(slices.Clone(d.Seen), func(fact int) bool { return slices.Contains(list, fact) })
}
