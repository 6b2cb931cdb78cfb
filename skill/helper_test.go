package skill_test

import (
	"slices"
	"testing"

	"pennyfall/api"
	"pennyfall/skill"
)

func ints(list ...int) []int { return list }

func pairs(list ...[2]int) [][2]int { return list }

// spot is one position of a machine.
type spot struct {
	player, won bool
	moves       []int
}

// own is a position at which the player moves, other one at which the machine
// answers, won one at which the player has won.
func own(moves ...int) spot   { return spot{player: true, moves: moves} }
func other(moves ...int) spot { return spot{moves: moves} }
func won(moves ...int) spot   { return spot{player: true, won: true, moves: moves} }

func machine(spots ...spot) api.SkillMachine {
	var m api.SkillMachine
	for _, s := range spots {
		m.Player = append(m.Player, s.player)
		m.Moves = append(m.Moves, slices.Clone(s.moves))
		m.Won = append(m.Won, s.won)
	}
	return m
}

// machineM and machineN are those of the chapter.
func machineM() api.SkillMachine {
	return machine(own(1, 2), other(3, 4), other(0, 5), own(5), own(4, 5), won())
}

func machineN() api.SkillMachine {
	return machine(own(1, 2), other(3, 4), other(0, 5), own(5), own(4), won())
}

// row is a machine of so many positions, each of which leads to the next one;
// the player has won at the last one, and moves at each other one if odd is 1.
func row(many, odd int) api.SkillMachine {
	var spots []spot
	for p := range many - 1 {
		spots = append(spots, spot{player: p%2 == odd, moves: ints(p + 1)})
	}
	return machine(append(spots, won())...)
}

// full is a machine each of whose positions leads to all of them.
func full(many int, player bool) api.SkillMachine {
	var all []int
	for p := range many {
		all = append(all, p)
	}
	var spots []spot
	for range many - 1 {
		spots = append(spots, spot{player: player, moves: all})
	}
	return machine(append(spots, spot{won: true, moves: all})...)
}

func cloned(m api.SkillMachine) api.SkillMachine {
	out := api.SkillMachine{Player: slices.Clone(m.Player), Won: slices.Clone(m.Won)}
	for _, moves := range m.Moves {
		out.Moves = append(out.Moves, slices.Clone(moves))
	}
	return out
}

// with returns a machine that is changed in one way.
func with(m api.SkillMachine, change func(m *api.SkillMachine)) api.SkillMachine {
	m = cloned(m)
	change(&m)
	return m
}

// chance is numbers that seem to be chance, and are the same in each run.
type chance struct{ at uint64 }

func (c *chance) below(n int) int {
	c.at = c.at*6364136223846793005 + 1442695040888963407
	return int((c.at >> 33) % uint64(n))
}

// machine returns a machine of so many positions, with few moves or many.
func (c *chance) machine(many int) api.SkillMachine {
	var spots []spot
	moves, wins := 1+c.below(4), 1+c.below(6)
	for range many {
		s := spot{player: c.below(2) == 0, won: c.below(wins+2) == 0}
		for to := range many {
			if c.below(many) < moves {
				s.moves = append(s.moves, to)
			}
		}
		spots = append(spots, s)
	}
	return machine(spots...)
}

// eachMachine calls do with all machines of so many positions.
func eachMachine(many int, do func(m api.SkillMachine)) {
	var lay func(spots []spot)
	lay = func(spots []spot) {
		if len(spots) == many {
			do(machine(spots...))
			return
		}
		for kind := range 4 {
			for set := range 1 << many {
				s := spot{player: kind&1 == 1, won: kind&2 == 2, moves: members(set)}
				lay(append(slices.Clone(spots), s))
			}
		}
	}
	lay(nil)
}

// members returns the numbers whose bits a number has.
func members(set int) []int {
	var out []int
	for p := 0; set>>p > 0; p++ {
		if set>>p&1 == 1 {
			out = append(out, p)
		}
	}
	return out
}

// machines returns many machines: the chapter's ones, all of one and two
// positions, the greatest ones, and such of chance of all sizes.
func machines() []api.SkillMachine {
	out := []api.SkillMachine{
		machineM(), machineN(), row(14, 0), row(14, 1), row(13, 0),
		full(14, true), full(14, false), full(5, true), full(5, false),
	}
	keep := func(m api.SkillMachine) { out = append(out, m) }
	eachMachine(1, keep)
	eachMachine(2, keep)
	c := chance{at: 1}
	for i := range 700 {
		out = append(out, c.machine(3+i%12))
	}
	return out
}

// distancesOf returns distances by the definition: the first number of moves in
// which the player is sure to have won, from none on.
func distancesOf(m api.SkillMachine) []int {
	out := slices.Repeat(ints(-1), len(m.Moves))
	sure := slices.Clone(m.Won)
	for moves := range 2 * api.MaxSkillPlaces {
		for p, is := range sure {
			if is && out[p] < 0 {
				out[p] = moves
			}
		}
		next := slices.Clone(m.Won)
		for p := range next {
			next[p] = next[p] || isSureBehind(m, p, sure)
		}
		sure = next
	}
	return out
}

// isSureBehind tells whether the player can be sure that a move of his, or any
// answer, leads to a position with a mark.
func isSureBehind(m api.SkillMachine, p int, marks []bool) bool {
	good := 0
	for _, to := range m.Moves[p] {
		if marks[to] {
			good++
		}
	}
	if m.Player[p] {
		return good > 0
	}
	return good > 0 && good == len(m.Moves[p])
}

// beats tells, by all plays, whether the player wins by a way from the last
// position of a play: none may go round, or end elsewhere.
func beats(m api.SkillMachine, way []int, play []int) bool {
	at := play[len(play)-1]
	if m.Won[at] {
		return true
	}
	nexts := m.Moves[at]
	if m.Player[at] {
		nexts = ints(way[at])
	}
	for _, to := range nexts {
		if to < 0 || slices.Contains(play, to) || !beats(m, way, append(slices.Clone(play), to)) {
			return false
		}
	}
	return len(nexts) > 0
}

// choices returns what a way may be at each position, for the player or for the
// machine.
func choices(m api.SkillMachine, player bool) [][]int {
	var out [][]int
	for p, moves := range m.Moves {
		list := ints(-1)
		if m.Player[p] == player && !m.Won[p] {
			list = append(list, moves...)
		}
		out = append(out, list)
	}
	return out
}

// eachWay calls do with all ways.
func eachWay(m api.SkillMachine, player bool, do func(way []int)) {
	all := choices(m, player)
	var choose func(way []int)
	choose = func(way []int) {
		if len(way) == len(all) {
			do(way)
			return
		}
		for _, to := range all[len(way)] {
			choose(append(slices.Clone(way), to))
		}
	}
	choose(nil)
}

// way returns some way, which mostly has a move where there is one.
func (c *chance) way(m api.SkillMachine, player bool) []int {
	var out []int
	for _, list := range choices(m, player) {
		at := c.below(len(list))
		if at == 0 && c.below(5) > 0 {
			at = len(list) - 1
		}
		out = append(out, list[at])
	}
	return out
}

func mustDistances(t *testing.T, m api.SkillMachine) []int {
	t.Helper()
	list, e := skill.Distances(m)
	if e != api.OK || len(list) != len(m.Moves) {
		t.Fatal("Distances", m, list, e)
	}
	return list
}

func mustKeep(t *testing.T, m api.SkillMachine) []int {
	t.Helper()
	list, e := skill.Keep(m)
	if e != api.OK {
		t.Fatal("Keep", m, e)
	}
	return list
}

// mustWay returns the way of Way, and mustAnswer that of Answer; both have to be ways.
func mustWay(t *testing.T, m api.SkillMachine) []int {
	t.Helper()
	way, e := skill.Way(m)
	if e2 := skill.CheckWay(m, true, way); e != api.OK || e2 != api.OK {
		t.Fatal("Way", m, way, e, e2)
	}
	return way
}

func mustAnswer(t *testing.T, m api.SkillMachine) []int {
	t.Helper()
	way, e := skill.Answer(m)
	if e2 := skill.CheckWay(m, false, way); e != api.OK || e2 != api.OK {
		t.Fatal("Answer", m, way, e, e2)
	}
	return way
}

func mustPlay(t *testing.T, m api.SkillMachine, one, two []int, from int) ([]int, bool) {
	t.Helper()
	list, wins, e := skill.Play(m, one, two, from)
	if e != api.OK || len(list) == 0 || list[0] != from {
		t.Fatal("Play", m, one, two, from, list, e)
	}
	return list, wins
}

func mustBeats(t *testing.T, m api.SkillMachine, way []int, from int) bool {
	t.Helper()
	wins, e := skill.Beats(m, way, from)
	if e != api.OK {
		t.Fatal("Beats", m, way, from, e)
	}
	return wins
}
