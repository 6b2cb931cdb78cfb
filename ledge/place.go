package ledge

import (
	"iter"

	"pennyfall/api"
)

// taken is which places are taken; those that a ledge has not never are.
type taken [api.MaxLedgePlaces]bool

// takenBy returns that the places of a list are taken.
func takenBy(list []int) taken {
	var out taken
	for _, at := range list {
		out[at] = true
	}
	return out
}

// besides returns which places are taken that are not taken in the other one.
func (t taken) besides(other taken) taken {
	var out taken
	for at := range t {
		out[at] = t[at] && !other[at]
	}
	return out
}

// ledge is one on which some places are taken. Two of them are equal just if
// the same places of as many are, so that it stands for their set.
type ledge struct {
	places int
	taken  taken
}

// along tells where a copper slides from a place.
func (l ledge) along(at int) int { return at + 1 }

// around tells where a copper slides from a place of a ledge round a wheel.
func (l ledge) around(at int) int { return (at + 1) % l.places }

// free yields the free places to which a copper comes from the place of its
// drop on, and how far each is. It goes on for as many places as there are:
// round a wheel it has seen all of them then.
func (l ledge) free(from int, next func(at int) int) iter.Seq2[int, int] {
	return func(yield func(at, far int) bool) {
		at := from
		for far := 0; far < l.places && at < l.places; far++ {
			if !l.taken[at] && !yield(at, far) {
				return
			}
			at = next(at)
		}
	}
}

// isTaken tells whether a place is taken.
func (l ledge) isTaken(at int) bool { return l.taken[at] }

// where returns the places that are good, increasing.
func (l ledge) where(good func(at int) bool) []int {
	var room [api.MaxLedgePlaces]int
	list := room[:0:l.places]
	for at := range l.places {
		if good(at) {
			list = append(list, at)
		}
	}
	out := make([]int, len(list))
	copy(out, list)
	return out
}
