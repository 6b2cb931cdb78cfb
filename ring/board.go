package ring

import (
	"iter"

	"pennyfall/api"
)

// pair is two keys, the lesser one first.
type pair struct{ one, other int }

func pairOf(one, other int) pair { return pair{min(one, other), max(one, other)} }

// clashes is the pairs of keys that clash.
type clashes map[pair]bool

func (c clashes) has(one, other int) bool { return c[pairOf(one, other)] }

// with yields the keys that clash with one.
func (c clashes) with(key int) iter.Seq[int] {
	return func(yield func(other int) bool) {
		for other := range api.MaxRingKeys {
			if c.has(key, other) && !yield(other) {
				return
			}
		}
	}
}

// drop forgets the clashes of a key.
func (c clashes) drop(key int) {
	for other := range api.MaxRingKeys {
		delete(c, pairOf(key, other))
	}
}

// board is one with a book, at which keys hang on rings.
type board struct {
	api.RingBook
	clashes clashes
	rings   rings // of the keys that hang now
}

// boardWith returns a board with a book, or the error of CheckBook.
func boardWith(book api.RingBook) (*board, api.Errno) {
	if e := CheckBook(book); e != api.OK {
		return nil, e
	}
	b := &board{RingBook: book, clashes: clashes{}}
	for _, q := range b.Quarrels {
		b.clashes[pairOf(q[0], q[1])] = true
	}
	for other := range b.Keys {
		for one := range other {
			if b.areOut(one, other) {
				b.clashes[pairOf(one, other)] = true
			}
		}
	}
	return b, api.OK
}

// areOut tells whether there is a day on which both keys are out.
func (b *board) areOut(one, other int) bool {
	k, l := b.Keys[one], b.Keys[other]
	return max(k.Out, l.Out) <= min(k.Back, l.Back)
}

// areTwo tells whether two numbers are different keys.
func (b *board) areTwo(one, two int) bool {
	return within(0, len(b.Keys)-1, one, two) && one != two
}

// keys yields those that are meant.
func (b *board) keys(isMeant func(key int) bool) iter.Seq[int] {
	return func(yield func(key int) bool) {
		for key := range b.Keys {
			if isMeant(key) && !yield(key) {
				return
			}
		}
	}
}

// outOn returns how many keys are out on a day.
func (b *board) outOn(day int64) int {
	many := 0
	for range b.keys(func(key int) bool { return within(b.Keys[key].Out, b.Keys[key].Back, day) }) {
		many++
	}
	return many
}

// days yields all days, the first one first.
func days() iter.Seq[int64] {
	return func(yield func(day int64) bool) {
		for day := range int64(api.MaxRingDay + 1) {
			if !yield(day) {
				return
			}
		}
	}
}

// best returns the first element of which a number is the greatest, or the zero
// value if there is none.
func best[T any](all iter.Seq[T], number func(x T) int) T {
	var out T
	none := true
	for x := range all {
		if none || number(x) > number(out) {
			out, none = x, false
		}
	}
	return out
}
