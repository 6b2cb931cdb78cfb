package float

import (
	"iter"
	"slices"

	"pennyfall/api"
)

// owed is an amount for which the best change is kept.
type owed struct{ amount int64 }

// changes yields the amounts up to one that can be paid, the least one first, each
// with its best change.
func (t *till) changes(most int64) iter.Seq2[int64, counts] {
	return func(yield func(amount int64, change counts) bool) {
		kept := map[owed]counts{}
		for amount := range most + 1 {
			change := best(t.longer(kept, amount), t.isBetter)
			if change.areChange(amount) {
				kept[owed{amount}] = change
				if !yield(amount, change) {
					return
				}
			}
			delete(kept, owed{amount - t.last()})
		}
	}
}

// longer yields, for an amount, the change that is kept for a lesser one, with the one
// coin more that makes it. The best change is among it: without any one of its coins
// it is the best change of what is left.
func (t *till) longer(kept map[owed]counts, amount int64) iter.Seq[counts] {
	return func(yield func(change counts) bool) {
		for kind, value := range t.values {
			change, ok := kept[owed{amount - value}]
			change[kind]++
			if ok && !yield(change) {
				return
			}
		}
	}
}

// change returns the best change of an amount, or none.
func (t *till) change(amount int64) counts {
	for paid, change := range t.changes(amount) {
		if paid == amount {
			return change
		}
	}
	return counts{}
}

// greedy returns what is taken greedily, and the rest.
func (t *till) greedy(amount int64) (counts, int64) {
	var taken counts
	for kind, value := range slices.Backward(t.values) {
		taken[kind] = amount / value
		amount %= value
	}
	return taken, amount
}

// isBad tells whether an amount is bad, if it has a best change.
func (t *till) isBad(amount int64, change counts) bool {
	taken, rest := t.greedy(amount)
	return rest > 0 || taken.many() > change.many()
}

// bad returns the least amount that is bad, or ErrNone, if the first kind has the
// value 1: then the least one is less than the values of the last two kinds together.
func (t *till) bad() (int64, api.Errno) {
	for amount, change := range t.changes(2 * api.MaxFloatCoin) {
		if t.isBad(amount, change) {
			return amount, api.OK
		}
	}
	return 0, api.ErrNone
}
