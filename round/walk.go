package round

import (
	"iter"

	"pennyfall/api"
)

// walk is one along a pier.
type walk struct {
	api.RoundPier
	left  int   // how many stops are on the left; they come before all others
	timed marks // which stops have a To
}

// walkAlong returns a walk along a pier whose stops all have a To, or the error of
// CheckPier.
func walkAlong(p api.RoundPier) (*walk, api.Errno) {
	if e := CheckPier(p); e != api.OK {
		return nil, e
	}
	w := &walk{RoundPier: p}
	for i, s := range w.Stops {
		w.timed[i] = true
		if s.Place < w.Begin {
			w.left = i + 1
		}
	}
	return w, api.OK
}

// isRound tells whether a list of all stops passes none without levelling it: each
// one lies at an end of those before it.
func (w *walk) isRound(list []int) bool {
	from, to := w.left, w.left
	for _, stop := range list {
		switch stop {
		case from - 1:
			from--
		case to:
			to++
		default:
			return false
		}
	}
	return true
}

// rounds yields all rounds, in lexicographic order.
func (w *walk) rounds() iter.Seq[[]int] {
	return func(yield func(round []int) bool) {
		w.grow(nil, w.left, w.left, yield)
	}
}

// grow yields all rounds that begin with some stops: those behind from, and before
// to. It tells whether to go on.
func (w *walk) grow(begun []int, from, to int, yield func(round []int) bool) bool {
	if len(begun) == len(w.Stops) {
		return yield(begun)
	}
	room := begun[:len(begun):len(begun)] // so that both ways on grow apart
	if from > 0 && !w.grow(append(room, from-1), from-1, to, yield) {
		return false
	}
	return to == len(w.Stops) || w.grow(append(room, to), from, to+1, yield)
}

// distance returns how far two places are from each other.
func distance(one, other int64) int64 { return max(one-other, other-one) }
