package skill_test

import (
	"math"
	"slices"
	"testing"

	"pennyfall/api"
	"pennyfall/skill"
)

// P3.5
func TestCheckWayOfSome(t *testing.T) {
	for i, c := range []struct {
		m      api.SkillMachine
		player bool
		way    []int
		e      api.Errno
	}{
		{machineM(), true, ints(1, -1, -1, 5, 5, -1), api.OK},
		{machineM(), true, ints(-1, -1, -1, -1, -1, -1), api.OK},
		{machineM(), false, ints(-1, -1, -1, -1, -1, -1), api.OK},
		{machineM(), false, ints(-1, 3, 0, -1, -1, -1), api.OK},
		{machineM(), true, ints(-1, 3, 0, -1, -1, -1), api.ErrRule},
		{machineM(), false, ints(1, -1, -1, 5, 5, -1), api.ErrRule},
		{machineM(), true, ints(3, -1, -1, 5, 5, -1), api.ErrRule},
		{machineM(), true, ints(0, -1, -1, -1, -1, -1), api.ErrRule},
		{machineM(), true, ints(-2, -1, -1, -1, -1, -1), api.ErrRule},
		{machineM(), true, ints(-1, -1, -1, -1, -1, math.MaxInt), api.ErrRule},
		{machineM(), true, ints(math.MinInt, -1, -1, -1, -1, -1), api.ErrRule},
		{machineM(), true, ints(1, -1, -1, 5, 5), api.ErrEqual},
		{machineM(), true, ints(9, 9, 9, 9, 9, 9, 9), api.ErrEqual},
		{machineM(), false, nil, api.ErrEqual},
		// where he has won nobody moves
		{machine(own(1), won(0, 1)), true, ints(1, 0), api.ErrRule},
		{machine(own(1), won(0, 1)), true, ints(1, -1), api.OK},
		{machine(own(1), spot{won: true, moves: ints(0)}), false, ints(-1, 0), api.ErrRule},
		{machine(own(1), spot{won: true, moves: ints(0)}), false, ints(-1, -1), api.OK},
		{machine(own(0)), true, ints(0), api.OK},
		{machine(other(0)), false, ints(0), api.OK},
	} {
		if e := skill.CheckWay(c.m, c.player, c.way); e != c.e {
			t.Error(i, e)
		}
	}
}

// P3.5: of all lists of numbers, of all machines of two positions.
func TestCheckWay(t *testing.T) {
	kinds := map[api.Errno]int{}
	eachMachine(2, func(m api.SkillMachine) {
		for code := range 32 {
			way, player := ints(code%4-1, code/4%4-1), code < 16
			want := api.OK
			for p, list := range choices(m, player) {
				if !slices.Contains(list, way[p]) {
					want = api.ErrRule
				}
			}
			kinds[want]++
			if e := skill.CheckWay(m, player, way); e != want {
				t.Fatal(m, player, way, e)
			}
		}
	})
	if kinds[api.OK] < 200 || kinds[api.ErrRule] < 200 {
		t.Error("too few of a kind:", kinds)
	}
}

// P3.6: examples of the chapter, and others.
func TestWayAndAnswerOfSome(t *testing.T) {
	for i, c := range []struct {
		m           api.SkillMachine
		way, answer []int
	}{
		{machineM(), ints(1, -1, -1, 5, 5, -1), ints(-1, 3, 0, -1, -1, -1)},
		{machineN(), ints(-1, -1, -1, 5, -1, -1), ints(-1, 4, 0, -1, -1, -1)},
		{full(4, true), ints(3, 3, 3, -1), ints(-1, -1, -1, -1)},
		{full(4, false), ints(-1, -1, -1, -1), ints(0, 0, 0, -1)},
		// of several that are as near, or as far, the first one
		{machine(own(1, 2, 3), own(4), own(4), own(2), won()), ints(1, 4, 4, 2, -1), ints(-1, -1, -1, -1, -1)},
		{machine(other(1, 2, 3), own(3), own(3), won()), ints(-1, 3, 3, -1), ints(1, -1, -1, -1)},
		// an answer that keeps the player, also behind others
		{machine(other(1, 2, 3), won(), own(), own()), ints(-1, -1, -1, -1), ints(2, -1, -1, -1)},
		{machine(other(), own()), ints(-1, -1), ints(-1, -1)},
		{machine(other(0), own(0)), ints(-1, -1), ints(0, -1)},
		{machine(won(0, 1), spot{won: true, moves: ints(0)}), ints(-1, -1), ints(-1, -1)},
	} {
		if way := mustWay(t, c.m); !slices.Equal(way, c.way) {
			t.Error(i, way)
		}
		if answer := mustAnswer(t, c.m); !slices.Equal(answer, c.answer) {
			t.Error(i, answer)
		}
	}
}

// firstTo returns the first move of a position to a distance, or -1.
func firstTo(m api.SkillMachine, far []int, p, distance int) int {
	for _, to := range m.Moves[p] {
		if far[to] == distance {
			return to
		}
	}
	return -1
}

// P3.6, by the definition.
func TestWayAndAnswer(t *testing.T) {
	check := func(m api.SkillMachine) {
		far := distancesOf(m)
		way, answer := slices.Repeat(ints(-1), len(far)), slices.Repeat(ints(-1), len(far))
		for p := range far {
			switch {
			case far[p] > 0 && m.Player[p]:
				way[p] = firstTo(m, far, p, far[p]-1)
			case far[p] > 0:
				answer[p] = firstTo(m, far, p, far[p]-1)
				for _, to := range m.Moves[p] {
					if far[to] > far[answer[p]] {
						t.Fatal(m, p, far)
					}
				}
			case far[p] < 0 && !m.Player[p]:
				answer[p] = firstTo(m, far, p, -1)
			}
		}
		if got := mustWay(t, m); !slices.Equal(got, way) {
			t.Fatal(m, got, way)
		}
		if got := mustAnswer(t, m); !slices.Equal(got, answer) {
			t.Fatal(m, got, answer)
		}
	}
	eachMachine(3, check)
	for _, m := range machines() {
		check(m)
	}
}

// P3.7: examples of the chapter, and others.
func TestPlayOfSome(t *testing.T) {
	way, answer, idle := ints(1, -1, -1, 5, 5, -1), ints(-1, 3, 0, -1, -1, -1), slices.Repeat(ints(-1), 6)
	short, wrong := ints(-1), ints(9, 9, 9, 9, 9, 9)
	for i, c := range []struct {
		m          api.SkillMachine
		own, other []int
		from       int
		list       []int
		wins       bool
		e          api.Errno
	}{
		{machineM(), way, answer, 2, ints(2, 0, 1, 3, 5), true, api.OK},
		{machineM(), way, answer, 1, ints(1, 3, 5), true, api.OK},
		{machineM(), way, answer, 5, ints(5), true, api.OK},
		{machineN(), ints(1, -1, -1, 5, 4, -1), ints(-1, 4, 0, -1, -1, -1), 0, ints(0, 1, 4), false, api.OK},
		{machineM(), ints(2, -1, -1, -1, -1, -1), answer, 0, ints(0, 2), false, api.OK},
		{machineM(), ints(2, -1, -1, -1, -1, -1), answer, 2, ints(2, 0), false, api.OK},
		{machineM(), idle, answer, 1, ints(1, 3), false, api.OK},
		{machineM(), way, idle, 0, ints(0, 1), false, api.OK},
		{machine(own()), ints(-1), ints(-1), 0, ints(0), false, api.OK},
		{machine(own(0)), ints(0), ints(-1), 0, ints(0), false, api.OK},
		{machine(own(1), won(0)), ints(1, -1), ints(-1, -1), 0, ints(0, 1), true, api.OK},
		{machineM(), short, short, 9, nil, false, api.ErrEqual},
		{machineM(), wrong, short, 9, nil, false, api.ErrRule},
		{machineM(), way, short, 9, nil, false, api.ErrEqual},
		{machineM(), way, wrong, 9, nil, false, api.ErrRule},
		{machineM(), answer, way, 0, nil, false, api.ErrRule},
		{machineM(), way, way, 0, nil, false, api.ErrRule},
		{machineM(), short, wrong, 0, nil, false, api.ErrEqual},
		{machineM(), way, answer, 6, nil, false, api.ErrArg},
		{machineM(), way, answer, -1, nil, false, api.ErrArg},
		{machineM(), way, answer, math.MinInt, nil, false, api.ErrArg},
		{machineM(), way, answer, math.MaxInt, nil, false, api.ErrArg},
	} {
		list, wins, e := skill.Play(c.m, c.own, c.other, c.from)
		if !slices.Equal(list, c.list) || wins != c.wins || e != c.e {
			t.Error(i, list, wins, e)
		}
	}
}

// played plays on from the last position of a list, by the definition.
func played(m api.SkillMachine, own, other, list []int) []int {
	at := list[len(list)-1]
	if m.Won[at] || len(m.Moves[at]) == 0 {
		return list
	}
	next := other[at]
	if m.Player[at] {
		next = own[at]
	}
	if next == -1 || slices.Contains(list, next) {
		return list
	}
	return played(m, own, other, append(list, next))
}

// P3.7: plays by all ways of small machines, and by some of great ones.
func TestPlay(t *testing.T) {
	longest := 0
	check := func(m api.SkillMachine, one, two []int) {
		for from := range m.Moves {
			want := played(m, one, two, ints(from))
			longest = max(longest, len(want))
			list, wins := mustPlay(t, m, one, two, from)
			if !slices.Equal(list, want) || wins != m.Won[want[len(want)-1]] {
				t.Fatal(m, one, two, list, wins)
			}
		}
	}
	c := chance{at: 4}
	for _, m := range machines() {
		if len(m.Moves) <= 2 {
			eachWay(m, true, func(one []int) {
				eachWay(m, false, func(two []int) { check(m, one, two) })
			})
			continue
		}
		for range 10 {
			check(m, c.way(m, true), c.way(m, false))
		}
		check(m, mustWay(t, m), mustAnswer(t, m))
	}
	if longest != 14 {
		t.Error("not the longest play:", longest)
	}
}

// P3.8: examples of the chapter, and others.
func TestBeatsOfSome(t *testing.T) {
	way := ints(1, -1, -1, 5, 5, -1)
	for i, c := range []struct {
		m    api.SkillMachine
		way  []int
		from int
		wins bool
		e    api.Errno
	}{
		{machineM(), way, 2, true, api.OK},
		{machineM(), ints(2, -1, -1, 5, 5, -1), 0, false, api.OK},
		{machineM(), ints(2, -1, -1, 5, 5, -1), 1, true, api.OK},
		{machineM(), ints(1, -1, -1, 5, 4, -1), 0, false, api.OK},
		{machineM(), ints(1, -1, -1, -1, 5, -1), 0, false, api.OK},
		{machineM(), ints(1, -1, -1, -1, 5, -1), 4, true, api.OK},
		{machineM(), slices.Repeat(ints(-1), 6), 5, true, api.OK},
		{machineM(), slices.Repeat(ints(-1), 6), 4, false, api.OK},
		{machine(other()), ints(-1), 0, false, api.OK},
		{machine(other(0, 1), won()), ints(-1, -1), 0, false, api.OK},
		{machine(other(1), won()), ints(-1, -1), 0, true, api.OK},
		{machineM(), ints(-1, 3, 0, -1, -1, -1), 9, false, api.ErrRule},
		{machineM(), ints(-1), 9, false, api.ErrEqual},
		{machineM(), way, 6, false, api.ErrArg},
		{machineM(), way, -1, false, api.ErrArg},
		{machineM(), way, math.MinInt, false, api.ErrArg},
	} {
		if wins, e := skill.Beats(c.m, c.way, c.from); wins != c.wins || e != c.e {
			t.Error(i, wins, e)
		}
	}
}

// P3.8: by all plays, of all ways of small machines, and of some of greater ones.
func TestBeats(t *testing.T) {
	kinds := map[bool]int{}
	check := func(m api.SkillMachine, way []int) {
		for from := range m.Moves {
			want := beats(m, way, ints(from))
			kinds[want && !m.Won[from]]++
			if got := mustBeats(t, m, way, from); got != want {
				t.Fatal(m, way, from, got)
			}
		}
	}
	c := chance{at: 5}
	for _, m := range machines() {
		switch many := len(m.Moves); {
		case many <= 4:
			eachWay(m, true, func(way []int) { check(m, way) })
		case many <= 9:
			for range 10 {
				check(m, c.way(m, true))
			}
			check(m, mustWay(t, m))
		}
	}
	if kinds[true] < 1000 || kinds[false] < 1000 {
		t.Error("too few of a kind:", kinds)
	}
}
