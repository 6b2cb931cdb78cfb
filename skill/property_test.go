package skill_test

import (
	"slices"
	"testing"

	"pennyfall/api"
	"pennyfall/skill"
)

// keeps returns lists that prove as keeps.
func (c *chance) keeps(t *testing.T, m api.SkillMachine) [][]int {
	t.Helper()
	greatest := mustKeep(t, m)
	out := [][]int{greatest}
	for range 8 {
		some := slices.DeleteFunc(slices.Clone(greatest), func(int) bool { return c.below(4) == 0 })
		if skill.CheckKeep(m, some) == api.OK {
			out = append(out, some)
		}
	}
	return out
}

// P3.11: no position is both in a keep that proves and one of ranks that prove.
func TestProofsApart(t *testing.T) {
	both := 0
	c := chance{at: 16}
	for _, m := range machines() {
		keeps := c.keeps(t, m)
		eachRanks(t, m, &c, func(ranks []int) {
			sure, e := skill.CheckRanks(m, ranks)
			for _, keep := range keeps {
				if e == api.OK && len(sure) > 0 && len(keep) > 0 {
					both++
				}
				for _, p := range keep {
					if slices.Contains(sure, p) {
						t.Fatal(m, ranks, keep)
					}
				}
			}
		})
	}
	if both < 1000 {
		t.Error("too few with both:", both)
	}
}

// P3.12: the player wins by Way from just the positions that are not kept.
func TestWayWins(t *testing.T) {
	check := func(m api.SkillMachine) {
		way, keep, far := mustWay(t, m), mustKeep(t, m), distancesOf(m)
		for p := range m.Moves {
			wins := mustBeats(t, m, way, p)
			if wins == slices.Contains(keep, p) || wins != (far[p] >= 0) {
				t.Fatal(m, p, way, keep)
			}
			if len(m.Moves) <= 8 && wins != beats(m, way, ints(p)) {
				t.Fatal(m, p, way)
			}
		}
	}
	eachMachine(3, check)
	for _, m := range machines() {
		check(m)
	}
}

// P3.12: whatever the player does, Answer holds him in the keep.
func TestAnswerHolds(t *testing.T) {
	kept := 0
	check := func(m api.SkillMachine, way, answer, keep []int) {
		for _, p := range keep {
			kept++
			list, wins := mustPlay(t, m, way, answer, p)
			for _, at := range list {
				if wins || !slices.Contains(keep, at) {
					t.Fatal(m, way, answer, list)
				}
			}
			if mustBeats(t, m, way, p) {
				t.Fatal(m, way, p)
			}
		}
	}
	all := func(m api.SkillMachine) {
		answer, keep := mustAnswer(t, m), mustKeep(t, m)
		if len(keep) > 0 {
			eachWay(m, true, func(way []int) { check(m, way, answer, keep) })
		}
	}
	eachMachine(2, all)
	c := chance{at: 8}
	for range 2000 {
		all(c.machine(3))
	}
	for _, m := range machines() {
		answer, keep := mustAnswer(t, m), mustKeep(t, m)
		for range 10 {
			check(m, c.way(m, true), answer, keep)
		}
	}
	if kept < 10000 {
		t.Error("too few plays:", kept)
	}
}

// P3.13: by Way and Answer the player wins in as many moves as the distance is.
func TestPlayedByBoth(t *testing.T) {
	check := func(m api.SkillMachine) {
		way, answer := mustWay(t, m), mustAnswer(t, m)
		for p, far := range mustDistances(t, m) {
			list, wins := mustPlay(t, m, way, answer, p)
			if far >= 0 && (!wins || len(list) != far+1) || far < 0 && wins {
				t.Fatal(m, p, far, list)
			}
		}
	}
	eachMachine(3, check)
	for _, m := range machines() {
		check(m)
	}
}

// withMove returns a machine with a move that it has not.
func withMove(m api.SkillMachine, from, to int) api.SkillMachine {
	at, _ := slices.BinarySearch(m.Moves[from], to)
	return with(m, func(m *api.SkillMachine) { m.Moves[from] = slices.Insert(m.Moves[from], at, to) })
}

// isLess tells whether a distance is less than another one; -1 is the greatest.
func isLess(a, b int) bool { return a >= 0 && (a < b || b < 0) }

// checkNoneLess checks that no distance of a list is less than that of another one.
func checkNoneLess(t *testing.T, m api.SkillMachine, list, least []int) {
	t.Helper()
	for p := range list {
		if isLess(list[p], least[p]) {
			t.Fatal(m, p, list, least)
		}
	}
}

// P3.14: what helps the player brings him no farther, what helps the machine no nearer.
func TestLess(t *testing.T) {
	nearer, farther := 0, 0
	c := chance{at: 9}
	for _, m := range machines() {
		before := mustDistances(t, m)
		for from, moves := range m.Moves {
			win := with(m, func(m *api.SkillMachine) { m.Won[from] = true })
			checkNoneLess(t, m, before, mustDistances(t, win))
			to := c.below(len(m.Moves))
			if slices.Contains(moves, to) || !m.Player[from] && len(moves) == 0 {
				continue
			}
			now := mustDistances(t, withMove(m, from, to))
			if m.Player[from] {
				checkNoneLess(t, m, before, now)
				nearer += len(now) - common(before, now)
			} else {
				checkNoneLess(t, m, now, before)
				farther += len(now) - common(before, now)
			}
		}
	}
	if nearer < 100 || farther < 100 {
		t.Error("too few that change:", nearer, farther)
	}
}

// common returns at how many places two lists have the same number.
func common(a, b []int) int {
	out := 0
	for p := range a {
		if a[p] == b[p] {
			out++
		}
	}
	return out
}

// P3.15: with one of them left he does not win; they are answers from the keep.
func TestTakenAllNeeded(t *testing.T) {
	taken := 0
	for _, m := range machines() {
		keep := mustKeep(t, m)
		for p := range m.Moves {
			list, e := skill.Taken(m, p)
			if e != api.OK {
				continue
			}
			if e := skill.CheckTaken(m, p, list); e != api.OK || len(list) == 0 {
				t.Fatal(m, p, list, e)
			}
			for i, pair := range list {
				taken++
				less := slices.Delete(slices.Clone(list), i, i+1)
				if e := skill.CheckTaken(m, p, less); e != api.ErrSkill || !slices.Contains(keep, pair[0]) {
					t.Fatal(m, p, list, i, e)
				}
			}
		}
	}
	if taken < 500 {
		t.Error("too few answers:", taken)
	}
}

// turned returns a machine whose positions have other numbers: to[p] is that of p.
func turned(m api.SkillMachine, to []int) api.SkillMachine {
	spots := make([]spot, len(to))
	for p, moves := range m.Moves {
		s := spot{player: m.Player[p], won: m.Won[p]}
		for _, next := range moves {
			s.moves = append(s.moves, to[next])
		}
		slices.Sort(s.moves)
		spots[to[p]] = s
	}
	return machine(spots...)
}

// P3.16
func TestTurned(t *testing.T) {
	c := chance{at: 10}
	for _, m := range machines() {
		var to []int
		for p := range m.Moves {
			to = slices.Insert(to, c.below(p+1), p)
		}
		far, now := mustDistances(t, m), mustDistances(t, turned(m, to))
		for p := range far {
			if now[to[p]] != far[p] {
				t.Fatal(m, to, far, now)
			}
		}
	}
}

// alone returns a machine at which the player moves everywhere, or nowhere.
func alone(m api.SkillMachine, player bool) api.SkillMachine {
	return with(m, func(m *api.SkillMachine) {
		for p := range m.Player {
			m.Player[p] = player
		}
	})
}

// nearest returns the least number of moves to a position at which the player
// has won, found from place to place, or -1.
func nearest(m api.SkillMachine, from int) int {
	steps := map[int]int{from: 0}
	for queue := ints(from); len(queue) > 0; queue = queue[1:] {
		at := queue[0]
		if m.Won[at] {
			return steps[at]
		}
		for _, to := range m.Moves[at] {
			if _, ok := steps[to]; !ok {
				steps[to] = steps[at] + 1
				queue = append(queue, to)
			}
		}
	}
	return -1
}

// allWin tells whether all ways from a position come to one at which the player
// has won, without going round or ending before.
func allWin(m api.SkillMachine, p int, on []int, known map[int]bool) bool {
	if m.Won[p] || known[p] {
		return true
	}
	on = append(slices.Clone(on), p)
	for _, to := range m.Moves[p] {
		if slices.Contains(on, to) || !allWin(m, to, on, known) {
			return false
		}
	}
	known[p] = len(m.Moves[p]) > 0
	return known[p]
}

// P3.17
func TestAlone(t *testing.T) {
	sure, kept := 0, 0
	check := func(m api.SkillMachine) {
		player, other := alone(m, true), alone(m, false)
		nears, fars := mustDistances(t, player), mustDistances(t, other)
		for p := range m.Moves {
			if nears[p] != nearest(m, p) {
				t.Fatal(player, p, nears)
			}
			if fars[p] >= 0 != allWin(m, p, nil, map[int]bool{}) {
				t.Fatal(other, p, fars)
			}
			if fars[p] > 0 {
				sure++
			} else if fars[p] < 0 && nears[p] > 0 {
				kept++
			}
		}
	}
	eachMachine(3, check)
	for _, m := range machines() {
		check(m)
	}
	if sure < 1000 || kept < 1000 {
		t.Error("too few of a kind:", sure, kept)
	}
}
