package skill

import (
	"slices"

	"pennyfall/api"
)

// isWay tells whether a list, with a number for each position, is a way of
// playing for the player, or for the machine.
func isWay(m api.SkillMachine, player bool, way []int) bool {
	for p, to := range way {
		chooses := m.Player[p] == player && !m.Won[p]
		if to != none && !(chooses && slices.Contains(m.Moves[p], to)) {
			return false
		}
	}
	return true
}

// way returns the first good move of each position, or none.
func (b board) way(good func(s step) bool) []int {
	out := make([]int, len(b.Moves))
search:
	for from, moves := range b.Moves {
		for _, to := range moves {
			if good(step{from, to}) {
				out[from] = to
				continue search
			}
		}
		out[from] = none
	}
	return out
}

// nears tells whether a step leads to a distance that is less by 1.
func (b board) nears(s step) bool {
	return b.far[s.from] > 0 && b.far[s.to] == b.far[s.from]-1
}

// wins tells whether a step is one of the player towards a win.
func (b board) wins(s step) bool {
	return b.Player[s.from] && b.nears(s)
}

// holds tells whether a step is an answer that keeps the player, or, where none
// does, one that holds him up for as long as it can.
func (b board) holds(s step) bool {
	return b.machineAt(s.from) && (b.nears(s) || b.far.isKept(s.from) && b.far.isKept(s.to))
}

// machineAt tells whether the machine answers at a position, and the play has
// not ended there with a win.
func (b board) machineAt(p int) bool {
	return !b.Player[p] && !b.Won[p]
}

// play returns the positions of a play by a way of the player and one of the
// machine. Each of them is there once, so the room is enough.
func play(m api.SkillMachine, own, other []int, from int) []int {
	var room [api.MaxSkillPlaces]int
	var seen marks
	list := room[:0:len(m.Moves)]
	for at := from; at != none && !seen[at]; {
		seen[at] = true
		list = append(list, at)
		if m.Player[at] {
			at = own[at]
		} else {
			at = other[at]
		}
	}
	out := make([]int, len(list))
	copy(out, list)
	return out
}

// by returns the board on which the player moves by a way of his alone.
func (b board) by(way []int) board {
	return b.only(func(s step) bool { return !b.Player[s.from] || way[s.from] == s.to })
}
