package float

import (
	"iter"
	"slices"

	"pennyfall/api"
)

// kinds is the value of the coins of each kind.
type kinds struct{ values []int64 }

// first returns the value of the first kind.
func (k kinds) first() int64 { return k.values[0] }

// last returns the value of the last kind.
func (k kinds) last() int64 { return k.values[len(k.values)-1] }

// list returns how many coins there are of each kind that there is.
func (k kinds) list(c counts) []int64 { return slices.Clone(c[:len(k.values)]) }

// amount returns what coins have together.
func (k kinds) amount(c counts) int64 {
	out := int64(0)
	for kind, value := range k.values {
		out += c[kind] * value
	}
	return out
}

// till is one with coins, from which change is given.
type till struct {
	kinds
	ways [api.MaxFloatAmount + 1]int64 // in which each amount can be paid
}

// tillWith returns a till with coins, or the error of CheckCoins.
func tillWith(coins []int64) (*till, api.Errno) {
	if e := CheckCoins(coins); e != api.OK {
		return nil, e
	}
	return &till{kinds: kinds{coins}}, api.OK
}

// tillFor returns a till with coins, for an amount, or an error.
func tillFor(coins []int64, amount int64) (*till, api.Errno) {
	t, e := tillWith(coins)
	if e == api.OK && !within(0, api.MaxFloatAmount, amount) {
		return nil, api.ErrRange
	}
	return t, e
}

// given returns change of an amount as a list, or ErrNone if none was found.
func (t *till) given(change counts, amount int64) ([]int64, api.Errno) {
	if !change.areChange(amount) {
		return nil, api.ErrNone
	}
	return t.list(change), api.OK
}

// isBetter tells whether one change has fewer coins than another one, or as many and
// comes before it.
func (t *till) isBetter(one, other counts) bool {
	if m, n := one.many(), other.many(); m != n {
		return m < n
	}
	kinds := len(t.values)
	return slices.Compare(one[:kinds], other[:kinds]) < 0
}

// best returns the first one than which no other one is better, or the zero value if
// there is none.
func best[T any](all iter.Seq[T], isBetter func(one, other T) bool) T {
	var out T
	none := true
	for x := range all {
		if none || isBetter(x, out) {
			out, none = x, false
		}
	}
	return out
}
