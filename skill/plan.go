package skill

import (
	"slices"

	"pennyfall/api"
)

// dear is more answers than any machine has.
const dear = api.MaxSkillPlaces*api.MaxSkillPlaces + 1

// plan is the best that was found so far to let the player win from all
// positions of a set: which one came last, and how many answers it costs.
type plan struct {
	last, many int
}

// set is positions: it has the bit of each of them.
type set uint

func setOf(list []int) set {
	var out set
	for _, p := range list {
		out |= 1 << p
	}
	return out
}

func (s set) has(p int) bool { return s>>p&1 == 1 }

func (s set) with(p int) set { return s | 1<<p }

func (s set) without(p int) set { return s &^ (1 << p) }

// plans returns the plan of each set. They begin with the positions from which
// the player wins; one more can come to a set if it has a move into it, and it
// costs its answers that lead elsewhere. Whatever answers are taken away, the
// positions from which he wins then come in such an order, that of their new
// distances: so no plan that costs less is missed.
func (b board) plans() []plan {
	out := slices.Repeat([]plan{{none, dear}}, 1<<len(b.Moves))
	out[setOf(b.where(b.far.isSure))].many = 0
	var in marks
	for s := range set(len(out)) {
		if out[s].many == dear {
			continue
		}
		clear(in[:])
		for _, p := range b.where(s.has) {
			in[p] = true
		}
		for p := range b.Moves {
			if in.has(p) {
				continue
			}
			more := plan{p, out[s].many + b.cost(p, in)}
			if more.many < out[s.with(p)].many {
				out[s.with(p)] = more
			}
		}
	}
	return out
}

// cost returns how many answers have to be taken away at a position so that all
// moves that are left lead to marked positions; dear if none does.
func (b board) cost(from int, in marks) int {
	many := 0
	for _, to := range b.Moves[from] {
		if in.lacks(to) {
			many++
		}
	}
	switch {
	case many == len(b.Moves[from]):
		return dear
	case b.Player[from]:
		return 0
	}
	return many
}

// best returns the first element than which no other one is better; the list is
// not empty.
func best[T any](list []T, better func(a, b T) bool) T {
	out := list[0]
	for _, x := range list[1:] {
		if better(x, out) {
			out = x
		}
	}
	return out
}
