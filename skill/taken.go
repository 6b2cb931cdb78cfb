package skill

import (
	"cmp"
	"iter"
	"maps"
	"slices"
)

// answers yields the answers at a position, if there are any.
func (b board) answers(from int) iter.Seq[step] {
	return func(yield func(step) bool) {
		if !isPosition(b.SkillMachine, from) || !b.machineAt(from) {
			return
		}
		for _, to := range b.Moves[from] {
			if !yield(step{from, to}) {
				return
			}
		}
	}
}

// isAnswer tells whether a step is an answer of the machine.
func (b board) isAnswer(s step) bool {
	for answer := range b.answers(s.from) {
		if answer == s {
			return true
		}
	}
	return false
}

// without returns the board without answers that are taken away, and whether
// they can be.
func (b board) without(taken [][2]int) (board, bool) {
	gone := map[step]bool{}
	for i, pair := range taken {
		s := step{pair[0], pair[1]}
		if i > 0 && slices.Compare(taken[i-1][:], pair[:]) >= 0 || !b.isAnswer(s) {
			return board{}, false
		}
		gone[s] = true
	}
	left := b.only(func(s step) bool { return !gone[s] })
	for p, moves := range b.Moves {
		if len(moves) > 0 && len(left.Moves[p]) == 0 {
			return board{}, false
		}
	}
	return left, true
}

// taken returns as few answers as there can be without which the player wins
// from a position, and whether there are such.
func (b board) taken(from int) ([][2]int, bool) {
	plans := b.plans()
	var sets []set
	for s := range set(len(plans)) {
		if s.has(from) {
			sets = append(sets, s)
		}
	}
	cheapest := best(sets, func(s, t set) bool { return plans[s].many < plans[t].many })
	if plans[cheapest].many == dear {
		return nil, false
	}
	return pairs(b.takenBy(plans, cheapest)), true
}

// takenBy returns the answers that the plan of a set takes away, from the
// position that came last to the first one.
func (b board) takenBy(plans []plan, s set) map[step]bool {
	taken := map[step]bool{}
	for last := plans[s].last; last != none; last = plans[s].last {
		for answer := range b.answers(last) {
			taken[answer] = true
		}
		s = s.without(last)
		for _, to := range b.Moves[last] {
			if s.has(to) {
				delete(taken, step{last, to})
			}
		}
	}
	return taken
}

// pairs returns steps in lexicographic order.
func pairs(steps map[step]bool) [][2]int {
	var out [][2]int
	for _, s := range slices.SortedFunc(maps.Keys(steps), compare) {
		out = append(out, [2]int{s.from, s.to})
	}
	return out
}

func compare(a, b step) int {
	return cmp.Or(cmp.Compare(a.from, b.from), cmp.Compare(a.to, b.to))
}
