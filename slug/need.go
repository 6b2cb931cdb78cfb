package slug

import (
	"iter"

	"pennyfall/api"
)

// never stands for a number of weighings where none is enough. It is as many as
// there can be cases: if some number is enough, then also one that is less than
// the number of cases, as a weighing leaves fewer cases or tells nothing.
const never = 2*api.MaxSlugCoppers + 1

// needs is how many weighings are needed for each state that was looked at.
type needs map[state]int

// of returns the weighings that are needed for a state, or never. It tries one
// number after another.
func (n needs) of(s state) int {
	if many, ok := n[s]; ok {
		return many
	}
	if s.isTold() {
		return 0
	}
	for many := s.bound(); many < s.cases(); many++ {
		if n.isEnough(s, many) {
			return many
		}
	}
	n[s] = never
	return never
}

// isEnough tells whether a number of weighings is enough for a state for which
// no lesser one is. The number is kept while it is tried, so that a weighing that
// tells nothing, and leaves this very state, leaves too many; and if it is enough.
func (n needs) isEnough(s state, many int) bool {
	n[s] = many
	_, left := n.best(s, many)
	if left >= many {
		delete(n, s)
	}
	return left < many
}

// best returns the first weighing that leaves less than a limit, which is at
// most what is needed, and how many it leaves; these are at least as many as the
// limit if there is no such weighing.
func (n needs) best(s state, limit int) (load, int) {
	return best(s.loads(), limit-1, func(l load) int { return n.left(s.after(l), limit) })
}

// left returns how many weighings are needed for each of some states; where that
// is not less than the limit, it may be told by the numbers of cases alone.
func (n needs) left(states []state, limit int) int {
	if least := greatest(states, state.bound); least >= limit {
		return least
	}
	return greatest(states, n.of)
}

// best returns the first element that costs least, and what it costs. It looks
// at no more of them after one that costs just what is enough.
func best[T any](all iter.Seq[T], enough int, cost func(x T) int) (T, int) {
	var out T
	least := never
	for x := range all {
		if many := cost(x); many < least {
			out, least = x, many
		}
		if least <= enough {
			break
		}
	}
	return out, least
}

// greatest returns the greatest number of all elements; 0 if there are none.
func greatest[T any](list []T, number func(x T) int) int {
	out := 0
	for _, x := range list {
		out = max(out, number(x))
	}
	return out
}
