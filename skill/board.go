package skill

import (
	"slices"

	"pennyfall/api"
)

// none stands where there is no distance, rank or move.
const none = -1

// distances is that of each position; those that a machine has not have none.
type distances [api.MaxSkillPlaces]int

func (d distances) isSure(p int) bool { return d[p] != none }

func (d distances) isKept(p int) bool { return d[p] == none }

// marks is which positions are marked.
type marks [api.MaxSkillPlaces]bool

// marked marks the positions of a list.
func marked(list []int) marks {
	var out marks
	for _, p := range list {
		out[p] = true
	}
	return out
}

func (m marks) has(p int) bool { return m[p] }

func (m marks) lacks(p int) bool { return !m[p] }

// step is a move from a position to another one, or to itself.
type step struct {
	from, to int
}

// board is a valid machine with the distances of its positions.
type board struct {
	api.SkillMachine
	far distances
}

func newBoard(m api.SkillMachine) board {
	b := board{SkillMachine: m}
	b.far = b.distances()
	return b
}

// laid lays out a machine, or returns the error of CheckMachine.
func laid(m api.SkillMachine) (board, api.Errno) {
	if e := CheckMachine(m); e != api.OK {
		return board{}, e
	}
	return newBoard(m), api.OK
}

// distances finds those of each number in a round of its own, from 0 on.
func (b board) distances() distances {
	var before distances
	for p := range before {
		before[p] = none
	}
	for number := 0; ; number++ {
		far := b.round(number, before)
		if far == before {
			return far
		}
		before = far
	}
}

// round returns the distances up to a number, by those that are less.
func (b board) round(number int, before distances) distances {
	far := before
	for p := range b.Moves {
		if before.isKept(p) && (b.Won[p] || b.forces(p, before.isSure)) {
			far[p] = number
		}
	}
	return far
}

// forces tells whether the player can be sure that a play goes on at a good
// position: he needs one good move, but the machine must have no other answers.
func (b board) forces(from int, good func(p int) bool) bool {
	moves := b.Moves[from]
	if b.Player[from] {
		return slices.ContainsFunc(moves, good)
	}
	bad := func(p int) bool { return !good(p) }
	return len(moves) > 0 && !slices.ContainsFunc(moves, bad)
}

// where returns the positions that are good, increasing.
func (b board) where(good func(p int) bool) []int {
	var out []int
	for p := range b.Moves {
		if good(p) {
			out = append(out, p)
		}
	}
	return out
}

// only returns the board with those moves alone that are kept.
func (b board) only(kept func(s step) bool) board {
	m := b.SkillMachine
	m.Moves = make([][]int, len(b.Moves))
	for from, moves := range b.Moves {
		for _, to := range moves {
			if kept(step{from, to}) {
				m.Moves[from] = append(m.Moves[from], to)
			}
		}
	}
	return newBoard(m)
}
