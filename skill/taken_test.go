package skill_test

import (
	"math"
	"slices"
	"testing"

	"pennyfall/api"
	"pennyfall/skill"
)

// P3.10: examples of the chapter, and others.
func TestCheckTakenOfSome(t *testing.T) {
	ended := machine(other(0, 1, 2), other(), own(1), spot{won: true, moves: ints(0, 1)}) // at 3 nobody answers
	for i, c := range []struct {
		m     api.SkillMachine
		from  int
		taken [][2]int
		e     api.Errno
	}{
		{machineN(), 0, pairs([2]int{1, 4}), api.OK},
		{machineN(), 0, pairs([2]int{1, 3}), api.ErrSkill},
		{machineN(), 0, pairs([2]int{2, 0}, [2]int{2, 5}), api.ErrRule}, // 2 has to keep one
		{machineN(), 0, pairs([2]int{1, 4}, [2]int{2, 0}), api.OK},
		{machineN(), 0, pairs([2]int{1, 4}, [2]int{2, 5}), api.OK},
		{machineN(), 2, pairs([2]int{1, 4}, [2]int{2, 5}), api.OK},
		{machineN(), 2, pairs([2]int{2, 0}), api.OK},
		{machineN(), 0, pairs([2]int{2, 0}), api.OK},
		{machineN(), 1, pairs([2]int{2, 0}), api.ErrSkill},
		{machineN(), 4, pairs([2]int{1, 4}), api.ErrSkill},
		{machineN(), 0, nil, api.ErrSkill},
		{machineN(), 3, nil, api.OK},
		{machineM(), 0, nil, api.OK},
		{machineN(), 0, pairs([2]int{2, 0}, [2]int{1, 4}), api.ErrRule},
		{machineN(), 0, pairs([2]int{1, 4}, [2]int{1, 3}), api.ErrRule},
		{machineN(), 0, pairs([2]int{1, 4}, [2]int{1, 4}), api.ErrRule},
		{machineN(), 0, pairs([2]int{1, 3}, [2]int{1, 4}), api.ErrRule},
		{machineN(), 0, pairs([2]int{1, 5}), api.ErrRule}, // it does not lead there
		{machineN(), 0, pairs([2]int{0, 1}), api.ErrRule}, // the player moves there
		{machineN(), 0, pairs([2]int{6, 0}), api.ErrRule},
		{machineN(), 0, pairs([2]int{-1, 0}), api.ErrRule},
		{machineN(), 0, pairs([2]int{1, -1}), api.ErrRule},
		{machineN(), 0, pairs([2]int{math.MinInt, math.MaxInt}), api.ErrRule},
		{machineN(), 3, pairs([2]int{math.MaxInt, math.MinInt}), api.ErrRule},
		{machineN(), 6, pairs([2]int{1, 4}), api.ErrArg},
		{machineN(), -1, pairs([2]int{6, 6}), api.ErrArg},
		{ended, 0, pairs([2]int{3, 0}), api.ErrRule},
		{ended, 3, nil, api.OK},
		{ended, 0, pairs([2]int{0, 0}, [2]int{0, 1}), api.ErrSkill},
		{ended, 0, pairs([2]int{0, 0}, [2]int{0, 1}, [2]int{0, 2}), api.ErrRule},
		{machine(other(0), won()), 1, pairs([2]int{0, 0}), api.ErrRule},
		{machine(other(0, 1), won()), 0, pairs([2]int{0, 0}), api.OK},
	} {
		if e := skill.CheckTaken(c.m, c.from, c.taken); e != c.e {
			t.Error(i, e)
		}
	}
}

// P3.10: those of which there is just one choice, and errors.
func TestTakenOfSome(t *testing.T) {
	for i, c := range []struct {
		m    api.SkillMachine
		from int
		list [][2]int
		e    api.Errno
	}{
		{machineM(), 0, nil, api.ErrNone},
		{machineN(), 3, nil, api.ErrNone},
		{machineN(), 5, nil, api.ErrNone},
		{machineN(), 1, pairs([2]int{1, 4}), api.OK},
		{machineN(), 4, nil, api.ErrSkill},
		{machineN(), 6, nil, api.ErrArg},
		{machineM(), -1, nil, api.ErrArg},
		{machineM(), math.MaxInt, nil, api.ErrArg},
		{machine(own()), 0, nil, api.ErrSkill},
		{machine(other()), 0, nil, api.ErrSkill},
		{machine(other(0)), 0, nil, api.ErrSkill},
		{machine(other(0, 1), own()), 0, nil, api.ErrSkill},
		{machine(other(0, 1), won()), 0, pairs([2]int{0, 0}), api.OK},
		// what one answer costs is paid once: two ways come over the position 3
		{machine(other(1, 2), own(3), own(3), other(0, 3, 4), won()), 0, pairs([2]int{3, 0}, [2]int{3, 3}), api.OK},
		// the shortest way may cost more than a longer one
		{machine(own(1, 2), other(0, 1, 5), other(0, 3), own(4), own(5), won()), 0, pairs([2]int{2, 0}), api.OK},
		// a player may come by two cheap answers instead of a dear one
		{machine(own(1, 2), other(0, 1, 2, 5), other(0, 3), other(2, 5), own(), won()), 0,
			pairs([2]int{2, 0}, [2]int{3, 2}), api.OK},
		{full(3, false), 0, pairs([2]int{0, 0}, [2]int{0, 1}), api.OK},
	} {
		list, e := skill.Taken(c.m, c.from)
		if !slices.Equal(list, c.list) || e != c.e {
			t.Error(i, list, e)
		}
	}
	for _, from := range ints(0, 2) { // there are two choices
		list, e := skill.Taken(machineN(), from)
		if len(list) != 1 || e != api.OK || skill.CheckTaken(machineN(), from, list) != api.OK {
			t.Error(from, list, e)
		}
	}
}

// answersOf returns all answers that could be taken away.
func answersOf(m api.SkillMachine) [][2]int {
	var out [][2]int
	for p, moves := range m.Moves {
		for _, to := range moves {
			if !m.Player[p] && !m.Won[p] {
				out = append(out, [2]int{p, to})
			}
		}
	}
	return out
}

// without returns a machine without some answers, and whether each position
// that has moves keeps one.
func without(m api.SkillMachine, taken [][2]int) (api.SkillMachine, bool) {
	out := cloned(m)
	for _, pair := range taken {
		moves := &out.Moves[pair[0]]
		*moves = slices.DeleteFunc(*moves, func(to int) bool { return to == pair[1] })
	}
	for p, moves := range out.Moves {
		if len(moves) == 0 && len(m.Moves[p]) > 0 {
			return out, false
		}
	}
	return out, true
}

// eachTaken calls do with all lists of at most so many answers, as long as it
// returns true; those of machines that cannot be are among them.
func eachTaken(m api.SkillMachine, most int, do func(taken [][2]int) bool) {
	all := answersOf(m)
	var choose func(taken [][2]int, at, many int) bool
	choose = func(taken [][2]int, at, many int) bool {
		if many == 0 {
			return do(taken)
		}
		for i := at; i < len(all); i++ {
			if !choose(append(slices.Clone(taken), all[i]), i+1, many-1) {
				return false
			}
		}
		return true
	}
	for many := range most + 1 {
		if many > len(all) || !choose(nil, 0, many) {
			return
		}
	}
}

// small returns machines with at most so many answers.
func small(most int) []api.SkillMachine {
	return slices.DeleteFunc(machines(), func(m api.SkillMachine) bool { return len(answersOf(m)) > most })
}

// P3.10: by all lists of answers.
func TestCheckTaken(t *testing.T) {
	kinds := map[api.Errno]int{}
	for _, m := range small(7) {
		eachTaken(m, 7, func(taken [][2]int) bool {
			left, legal := without(m, taken)
			for p, far := range distancesOf(left) {
				want := api.OK
				if far < 0 {
					want = api.ErrSkill
				}
				if !legal {
					want = api.ErrRule
				}
				kinds[want]++
				if e := skill.CheckTaken(m, p, taken); e != want {
					t.Fatal(m, p, taken, e)
				}
			}
			return true
		})
	}
	if kinds[api.OK] < 1000 || kinds[api.ErrSkill] < 1000 || kinds[api.ErrRule] < 1000 {
		t.Error("too few of a kind:", kinds)
	}
}

// fewestTaken returns for each position how few answers have to be taken away
// so that the player wins from it, if at most so many are; -1 if more are needed.
func fewestTaken(m api.SkillMachine, most int) []int {
	out := slices.Repeat(ints(-1), len(m.Moves))
	eachTaken(m, most, func(taken [][2]int) bool {
		if left, legal := without(m, taken); legal {
			for p, far := range distancesOf(left) {
				if far >= 0 && out[p] < 0 {
					out[p] = len(taken)
				}
			}
		}
		return slices.Contains(out, -1)
	})
	return out
}

// P3.10: by all lists of answers, none of which is without need as long.
func TestTaken(t *testing.T) {
	kinds, most := map[api.Errno]int{}, 0
	check := func(m api.SkillMachine) {
		for p, few := range fewestTaken(m, 14) {
			want := api.OK
			switch {
			case few < 0:
				want = api.ErrSkill
			case few == 0:
				want = api.ErrNone
			}
			kinds[want]++
			list, e := skill.Taken(m, p)
			if e != want || len(list) != max(few, 0) {
				t.Fatal(m, p, few, list, e)
			}
			if most = max(most, few); e == api.OK && skill.CheckTaken(m, p, list) != api.OK {
				t.Fatal(m, p, list)
			}
		}
	}
	for _, m := range small(9) {
		check(m)
	}
	c := chance{at: 6}
	for i := range 300 {
		if m := c.machine(4 + i%3); len(answersOf(m)) <= 12 {
			check(m)
		}
	}
	if most < 4 || kinds[api.OK] < 300 || kinds[api.ErrSkill] < 300 || kinds[api.ErrNone] < 300 {
		t.Error("too few of a kind:", kinds, most)
	}
}

// P3.10 and P3.15: of machines of all sizes, against all lists that have few answers.
func TestTakenOfGreatOnes(t *testing.T) {
	several := 0
	c := chance{at: 7}
	for i := range 200 {
		m := c.machine(8 + i%7)
		few := fewestTaken(m, 2)
		for p, far := range distancesOf(m) {
			list, e := skill.Taken(m, p)
			if far >= 0 || e != api.OK {
				continue
			}
			if e := skill.CheckTaken(m, p, list); e != api.OK {
				t.Fatal(m, p, list, e)
			}
			if len(list) <= 2 && few[p] != len(list) || len(list) > 2 && few[p] >= 0 {
				t.Fatal(m, p, list, few)
			}
			if len(list) > 2 {
				several++
			}
		}
	}
	if several < 100 {
		t.Error("too few with more than two answers:", several)
	}
}
