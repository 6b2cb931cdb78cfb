package skill_test

import (
	"math"
	"slices"
	"testing"

	"pennyfall/api"
	"pennyfall/skill"
)

// errorsOf returns the errors of all functions but CheckMachine, whose other
// arguments are not valid, either.
func errorsOf(m api.SkillMachine) []api.Errno {
	bad := ints(99, 98)
	_, distances := skill.Distances(m)
	_, ranks := skill.CheckRanks(m, bad)
	keep := skill.CheckKeep(m, bad)
	_, greatest := skill.Keep(m)
	way := skill.CheckWay(m, true, bad)
	_, own := skill.Way(m)
	_, answer := skill.Answer(m)
	_, _, play := skill.Play(m, bad, bad, -1)
	_, beats := skill.Beats(m, bad, -1)
	_, sure := skill.Sure(m, -1)
	check := skill.CheckTaken(m, -1, pairs([2]int{-1, -1}))
	_, taken := skill.Taken(m, -1)
	return []api.Errno{distances, ranks, keep, greatest, way, own, answer, play, beats, sure, check, taken}
}

// P3.1, and that all functions return this error before all others.
func TestCheckMachine(t *testing.T) {
	for i, c := range []struct {
		m api.SkillMachine
		e api.Errno
	}{
		{machineM(), api.OK},
		{machineN(), api.OK},
		{machine(own()), api.OK},
		{machine(other(0)), api.OK},
		{machine(won(0)), api.OK},
		{row(14, 0), api.OK},
		{full(14, false), api.OK},
		{api.SkillMachine{}, api.ErrMany},
		{row(15, 0), api.ErrMany},
		{full(15, true), api.ErrMany},
		// the number of positions before all else
		{api.SkillMachine{Player: make([]bool, 3), Won: make([]bool, 2)}, api.ErrMany},
		{api.SkillMachine{Moves: make([][]int, 15)}, api.ErrMany},
		{with(row(15, 0), func(m *api.SkillMachine) { m.Moves[0] = ints(-1) }), api.ErrMany},
		{with(machineM(), func(m *api.SkillMachine) { m.Player = m.Player[1:] }), api.ErrEqual},
		{with(machineM(), func(m *api.SkillMachine) { m.Player = append(m.Player, true) }), api.ErrEqual},
		{with(machineM(), func(m *api.SkillMachine) { m.Player = nil }), api.ErrEqual},
		{with(machineM(), func(m *api.SkillMachine) { m.Won = m.Won[1:] }), api.ErrEqual},
		{with(machineM(), func(m *api.SkillMachine) { m.Won = append(m.Won, true) }), api.ErrEqual},
		{with(machineM(), func(m *api.SkillMachine) { m.Won = nil }), api.ErrEqual},
		{with(machineM(), func(m *api.SkillMachine) { m.Moves = m.Moves[1:] }), api.ErrEqual},
		{with(machine(own(1)), func(m *api.SkillMachine) { m.Won = nil }), api.ErrEqual},
		{machine(own(1)), api.ErrArg},
		{machine(own(-1)), api.ErrArg},
		{machine(own(0, 0)), api.ErrArg},
		{machine(own(), other(1, 0)), api.ErrArg},
		{machine(own(0, 1), other(0, 1, 1)), api.ErrArg},
		{machine(own(0, 1), other(0, 1, 2)), api.ErrArg},
		{machine(own(0, 1), won(2)), api.ErrArg}, // also of a position at which he has won
		{machine(own(0, 1), other(0, math.MaxInt)), api.ErrArg},
		{machine(own(0, 1), other(math.MinInt, 0)), api.ErrArg},
		{with(row(14, 1), func(m *api.SkillMachine) { m.Moves[13] = ints(14) }), api.ErrArg},
		{with(row(14, 1), func(m *api.SkillMachine) { m.Moves[13] = ints(0, 13) }), api.OK},
	} {
		if e := skill.CheckMachine(c.m); e != c.e {
			t.Error(i, e)
		}
		for k, e := range errorsOf(c.m) {
			if c.e != api.OK && e != c.e {
				t.Error(i, k, e)
			}
		}
	}
}

// P3.2: examples of the chapter, and others.
func TestDistancesOfSome(t *testing.T) {
	for i, c := range []struct {
		m    api.SkillMachine
		list []int
	}{
		{machineM(), ints(3, 2, 4, 1, 1, 0)},
		{machineN(), ints(-1, -1, -1, 1, -1, 0)},
		{machine(own()), ints(-1)},
		{machine(other()), ints(-1)}, // the machine need not answer, but the play ends
		{machine(own(0)), ints(-1)},
		{machine(other(0)), ints(-1)},
		{machine(won()), ints(0)},
		{machine(spot{won: true, moves: ints(0)}), ints(0)},
		{row(14, 0), ints(13, 12, 11, 10, 9, 8, 7, 6, 5, 4, 3, 2, 1, 0)},
		{row(14, 1), ints(13, 12, 11, 10, 9, 8, 7, 6, 5, 4, 3, 2, 1, 0)},
		{full(4, true), ints(1, 1, 1, 0)},
		{full(4, false), ints(-1, -1, -1, 0)},
		// the player takes the nearest, the machine the farthest
		{machine(own(2, 3), other(2, 3), own(3), won()), ints(1, 2, 1, 0)},
		// a position that has won does not lead on, wherever it leads
		{machine(other(1), won(2), own()), ints(1, 0, -1)},
		// the player may go round, but need not
		{machine(own(0, 1), other(0, 2), won()), ints(-1, -1, 0)},
		{machine(own(0, 1, 2), other(0, 2), won()), ints(1, 2, 0)},
	} {
		if list := mustDistances(t, c.m); !slices.Equal(list, c.list) {
			t.Error(i, list)
		}
	}
}

// P3.2 and P3.9, by the definition; and how far the greatest are.
func TestDistances(t *testing.T) {
	most := 0
	check := func(m api.SkillMachine) {
		want := distancesOf(m)
		if list := mustDistances(t, m); !slices.Equal(list, want) {
			t.Fatal(m, list, want)
		}
		for p, far := range want {
			most = max(most, far)
			n, e := skill.Sure(m, p)
			if far < 0 && (n != 0 || e != api.ErrSkill) || far >= 0 && (n != far || e != api.OK) {
				t.Fatal(m, p, n, e)
			}
		}
	}
	eachMachine(3, check)
	for _, m := range machines() {
		check(m)
	}
	if most != 13 {
		t.Error("not the greatest distance:", most)
	}
}

// P3.9
func TestSure(t *testing.T) {
	for i, c := range []struct {
		m       api.SkillMachine
		from, n int
		e       api.Errno
	}{
		{machineM(), 2, 4, api.OK},
		{machineM(), 5, 0, api.OK},
		{machineN(), 0, 0, api.ErrSkill},
		{machineN(), 3, 1, api.OK},
		{machineM(), 6, 0, api.ErrArg},
		{machineN(), -1, 0, api.ErrArg},
		{machineN(), math.MaxInt, 0, api.ErrArg},
		{machineN(), math.MinInt, 0, api.ErrArg},
		{row(14, 0), 0, 13, api.OK},
		{row(14, 0), 14, 0, api.ErrArg},
	} {
		if n, e := skill.Sure(c.m, c.from); n != c.n || e != c.e {
			t.Error(i, n, e)
		}
	}
}
