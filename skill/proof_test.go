package skill_test

import (
	"math"
	"slices"
	"testing"

	"pennyfall/api"
	"pennyfall/skill"
)

// P3.3: examples of the chapter, and others.
func TestCheckRanksOfSome(t *testing.T) {
	long := slices.Repeat(ints(-1), 6)
	for i, c := range []struct {
		m     api.SkillMachine
		ranks []int
		list  []int
		e     api.Errno
	}{
		{machineM(), ints(3, 2, 4, 1, 1, 0), ints(0, 1, 2, 3, 4, 5), api.OK},
		{machineM(), ints(5, 4, -1, 3, 2, 0), ints(0, 1, 3, 4, 5), api.OK},
		{machineM(), ints(2, 2, 4, 1, 1, 0), nil, api.ErrSum},
		{machineM(), ints(3, 1, 4, 1, 1, 0), nil, api.ErrSum}, // an answer to one that is not less
		{machineM(), ints(3, 2, 4, -1, 1, 0), nil, api.ErrSum},
		{machineM(), ints(3, 2, -1, 1, 1, 0), ints(0, 1, 3, 4, 5), api.OK},
		{machineM(), ints(-1, -1, 4, 1, 1, 0), nil, api.ErrSum},
		{machineM(), long, nil, api.ErrSum}, // where he has won the rank is 0
		{machineM(), ints(-1, -1, -1, -1, -1, 0), ints(5), api.OK},
		{machineM(), ints(-1, -1, -1, -1, -1, 1), nil, api.ErrSum},
		{machineM(), ints(0, -1, -1, -1, -1, 0), nil, api.ErrSum},
		{machineM(), ints(13, 12, 14, 1, 11, 0), ints(0, 1, 2, 3, 4, 5), api.OK},
		{machineM(), ints(14, 12, 14, 1, 11, 0), nil, api.ErrSum},
		{machineM(), ints(15, 12, 14, 1, 11, 0), nil, api.ErrRange},
		{machineM(), ints(3, 2, 4, 1, 1, -2), nil, api.ErrRange},
		{machineM(), ints(math.MaxInt, 0, 0, 0, 0, 0), nil, api.ErrRange},
		{machineM(), ints(0, 0, 0, 0, 0, math.MinInt), nil, api.ErrRange},
		{machineM(), ints(3, 2, 4, 1, 1), nil, api.ErrEqual},
		{machineM(), append(long, 15), nil, api.ErrEqual},
		{machineM(), nil, nil, api.ErrEqual},
		{machine(own()), ints(-1), nil, api.OK},
		{machine(other()), ints(1), nil, api.ErrSum}, // an answer there has to be
		{machine(other(0)), ints(1), nil, api.ErrSum},
		{machine(own(0)), ints(14), nil, api.ErrSum},
		{machine(own(1), won()), ints(1, 0), ints(0, 1), api.OK},
		{machine(spot{won: true}), ints(0), ints(0), api.OK},
	} {
		if list, e := skill.CheckRanks(c.m, c.ranks); !slices.Equal(list, c.list) || e != c.e {
			t.Error(i, list, e)
		}
	}
}

// ranksProve tells, by the definition, whether ranks prove.
func ranksProve(m api.SkillMachine, ranks []int) bool {
	for p, rank := range ranks {
		if (rank == 0) != m.Won[p] {
			return false
		}
		var less []bool
		for _, other := range ranks {
			less = append(less, other >= 0 && other < rank)
		}
		if rank > 0 && !isSureBehind(m, p, less) {
			return false
		}
	}
	return true
}

// eachRanks calls do with lists of ranks of a machine: all of some numbers for
// a small one, and its distances, some of them changed, for a great one.
func eachRanks(t *testing.T, m api.SkillMachine, c *chance, do func(ranks []int)) {
	t.Helper()
	if many := len(m.Moves); many <= 2 {
		numbers := ints(-1, 0, 1, 2, 3, 14)
		for code := range 36 {
			do(ints(numbers[code%6], numbers[code/6])[:many])
		}
		return
	}
	far := mustDistances(t, m)
	do(far)
	for range 12 {
		ranks, add := slices.Clone(far), c.below(2)
		for p := range ranks {
			if ranks[p] > 0 {
				ranks[p] += add
			}
		}
		for range 1 + c.below(2) {
			ranks[c.below(len(ranks))] = c.below(16) - 1
		}
		do(ranks)
	}
}

// P3.3 and P3.11: what ranks prove is so, and nothing else is taken for a proof.
func TestCheckRanks(t *testing.T) {
	kinds := map[api.Errno]int{}
	c := chance{at: 2}
	for _, m := range machines() {
		far := mustDistances(t, m)
		eachRanks(t, m, &c, func(ranks []int) {
			list, e := skill.CheckRanks(m, ranks)
			kinds[e]++
			if !ranksProve(m, ranks) {
				if e != api.ErrSum || len(list) > 0 {
					t.Fatal(m, ranks, list, e)
				}
				return
			}
			var want []int
			for p, rank := range ranks {
				if rank < 0 {
					continue
				}
				want = append(want, p)
				if far[p] < 0 || far[p] > rank {
					t.Fatal(m, ranks, far)
				}
			}
			if e != api.OK || !slices.Equal(list, want) {
				t.Fatal(m, ranks, list, e)
			}
		})
	}
	if kinds[api.OK] < 1000 || kinds[api.ErrSum] < 1000 {
		t.Error("too few of a kind:", kinds)
	}
}

// P3.11: distances prove as ranks.
func TestDistancesProve(t *testing.T) {
	check := func(m api.SkillMachine) {
		var want []int
		far := mustDistances(t, m)
		for p := range far {
			if far[p] >= 0 {
				want = append(want, p)
			}
		}
		if list, e := skill.CheckRanks(m, far); e != api.OK || !slices.Equal(list, want) {
			t.Fatal(m, list, e)
		}
	}
	eachMachine(3, check)
	for _, m := range machines() {
		check(m)
	}
}

// P3.4: examples of the chapter, and others.
func TestCheckKeepOfSome(t *testing.T) {
	for i, c := range []struct {
		m    api.SkillMachine
		keep []int
		e    api.Errno
	}{
		{machineN(), ints(4), api.OK},
		{machineN(), ints(0), api.ErrSum},
		{machineN(), ints(0, 1, 2, 4), api.OK},
		{machineN(), ints(1, 4), api.OK},
		{machineN(), ints(1), api.ErrSum},
		{machineN(), ints(0, 1, 2), api.ErrSum},
		{machineN(), ints(0, 1, 2, 3, 4), api.ErrSum},
		{machineN(), ints(5), api.ErrSum},
		{machineN(), nil, api.OK}, // none says nothing, and that is so
		{machineM(), nil, api.OK},
		{machineM(), ints(0, 1, 2, 3, 4, 5), api.ErrSum},
		{machineN(), ints(4, 4), api.ErrArg},
		{machineN(), ints(4, 1), api.ErrArg},
		{machineN(), ints(4, 6), api.ErrArg},
		{machineN(), ints(-1, 4), api.ErrArg},
		{machineN(), ints(0, 6), api.ErrArg},
		{machineN(), ints(math.MinInt), api.ErrArg},
		{machineN(), ints(math.MaxInt), api.ErrArg},
		{machine(other()), ints(0), api.OK},
		{machine(own()), ints(0), api.OK},
		{machine(own(0)), ints(0), api.OK},
		{machine(other(0)), ints(0), api.OK},
		{machine(other(1), own()), ints(0), api.ErrSum},
		{machine(other(0, 1), won()), ints(0), api.OK},
		{machine(own(0, 1), won()), ints(0), api.ErrSum},
		{machine(won()), ints(0), api.ErrSum},
		{machine(spot{won: true}), ints(0), api.ErrSum}, // whoever would move there
	} {
		if e := skill.CheckKeep(c.m, c.keep); e != c.e {
			t.Error(i, c.keep, e)
		}
	}
}

// keepProves tells, by the definition, whether positions prove as a keep.
func keepProves(m api.SkillMachine, keep []int) bool {
	for _, p := range keep {
		inside := 0
		for _, to := range m.Moves[p] {
			if slices.Contains(keep, to) {
				inside++
			}
		}
		switch {
		case m.Won[p]:
			return false
		case m.Player[p] && inside < len(m.Moves[p]):
			return false
		case !m.Player[p] && inside == 0 && len(m.Moves[p]) > 0:
			return false
		}
	}
	return true
}

// P3.4 and P3.11: a keep that proves is in the greatest one, from no position of
// which the player wins; nothing else is taken for a proof.
func TestCheckKeep(t *testing.T) {
	kinds := map[api.Errno]int{}
	c := chance{at: 3}
	check := func(m api.SkillMachine, keep []int) {
		want := api.ErrSum
		if keepProves(m, keep) {
			want = api.OK
			far := mustDistances(t, m)
			for _, p := range keep {
				if far[p] >= 0 {
					t.Fatal(m, keep, far)
				}
			}
		}
		kinds[want]++
		if e := skill.CheckKeep(m, keep); e != want {
			t.Fatal(m, keep, e)
		}
	}
	eachMachine(3, func(m api.SkillMachine) {
		for set := range 8 {
			check(m, members(set))
		}
	})
	for _, m := range machines() {
		keep := mustKeep(t, m)
		for range 20 {
			some := slices.DeleteFunc(slices.Clone(keep), func(p int) bool { return c.below(6) == 0 })
			check(m, some)
			check(m, members(c.below(1<<len(m.Moves))))
		}
	}
	if kinds[api.OK] < 1000 || kinds[api.ErrSum] < 1000 {
		t.Error("too few of a kind:", kinds)
	}
}

// P3.4: all positions whose distance is -1; and that they prove.
func TestKeep(t *testing.T) {
	for i, c := range []struct {
		m    api.SkillMachine
		keep []int
	}{
		{machineM(), nil},
		{machineN(), ints(0, 1, 2, 4)},
		{full(3, false), ints(0, 1)},
		{machine(own()), ints(0)},
	} {
		if keep := mustKeep(t, c.m); !slices.Equal(keep, c.keep) {
			t.Error(i, keep)
		}
	}
	check := func(m api.SkillMachine) {
		var want []int
		for p, far := range distancesOf(m) {
			if far < 0 {
				want = append(want, p)
			}
		}
		keep := mustKeep(t, m)
		if e := skill.CheckKeep(m, keep); !slices.Equal(keep, want) || e != api.OK {
			t.Fatal(m, keep, e)
		}
	}
	eachMachine(3, check)
	for _, m := range machines() {
		check(m)
	}
}
