package skill_test

import (
	"math"
	"reflect"
	"slices"
	"sync"
	"testing"

	"pennyfall/api"
	"pennyfall/skill"
)

// asked is a machine, and the other arguments of all functions.
type asked struct {
	m          api.SkillMachine
	list       []int // of CheckRanks and CheckKeep
	own, other []int
	from       int
	taken      [][2]int
}

// answers is what all functions return.
type answers struct {
	Errors []api.Errno
	Lists  [][]int
	Taken  [][2]int
	Wins   []bool
}

func (a *answers) keep(list []int, e api.Errno) {
	a.Lists = append(a.Lists, append([]int{}, list...))
	a.Errors = append(a.Errors, e)
}

func (q asked) answers() answers {
	a := answers{Errors: []api.Errno{
		skill.CheckMachine(q.m), skill.CheckKeep(q.m, q.list),
		skill.CheckWay(q.m, true, q.own), skill.CheckWay(q.m, false, q.other),
		skill.CheckTaken(q.m, q.from, q.taken),
	}}
	a.keep(skill.Distances(q.m))
	a.keep(skill.CheckRanks(q.m, q.list))
	a.keep(skill.Keep(q.m))
	a.keep(skill.Way(q.m))
	a.keep(skill.Answer(q.m))
	list, won, e := skill.Play(q.m, q.own, q.other, q.from)
	a.keep(list, e)
	wins, e := skill.Beats(q.m, q.own, q.from)
	a.keep(nil, e)
	n, e := skill.Sure(q.m, q.from)
	a.keep(ints(n), e)
	taken, e := skill.Taken(q.m, q.from)
	a.keep(nil, e)
	a.Taken, a.Wins = append([][2]int{}, taken...), []bool{won, wins}
	return a
}

func (a answers) equal(b answers) bool { return reflect.DeepEqual(a, b) }

// valid returns arguments that are valid, but that it is not said whether the
// list and the answers prove.
func (c *chance) valid(m api.SkillMachine) asked {
	far, _ := skill.Distances(m)
	q := asked{m: m, list: far, own: c.way(m, true), other: c.way(m, false), from: c.below(len(m.Moves))}
	q.taken, _ = skill.Taken(m, q.from)
	if c.below(2) == 0 {
		q.list, _ = skill.Keep(m)
	}
	return q
}

// any changes arguments that are valid in several ways.
func (c *chance) any(q asked) asked {
	extreme := ints(math.MinInt, -2, -1, 0, 1, 2, 5, 13, 14, 15, math.MaxInt)
	number := func() int { return extreme[c.below(len(extreme))] }
	lists := []*[]int{&q.list, &q.own, &q.other}
	q.m = cloned(q.m)
	for p := range q.m.Moves {
		lists = append(lists, &q.m.Moves[p])
	}
	for range c.below(4) {
		list := lists[c.below(len(lists))]
		*list = append(slices.Clone(*list)[:c.below(len(*list)+1)], slices.Repeat(ints(number()), c.below(16))...)
	}
	switch c.below(8) {
	case 0:
		q.m.Player = make([]bool, c.below(16))
	case 1:
		q.m.Won = make([]bool, c.below(16))
	case 2:
		q.m.Moves = make([][]int, c.below(16))
	}
	if c.below(3) == 0 {
		q.from = number()
	}
	if c.below(3) == 0 {
		q.taken = append(slices.Clone(q.taken), [2]int{number(), number()})
	}
	return q
}

// P1: whatever the arguments are, all functions end and do not panic.
func TestAnyArguments(t *testing.T) {
	c, failed := chance{at: 11}, 0
	for _, m := range machines() {
		for range 5 {
			a := c.any(c.valid(m)).answers()
			if a.Errors[0] != api.OK {
				failed++
			}
		}
	}
	if failed < 200 {
		t.Error("too few that are not valid:", failed)
	}
}

// R2: with an error all other results are zero values.
func TestWithAnError(t *testing.T) {
	c := chance{at: 12}
	for _, m := range machines() {
		q := c.any(c.valid(m))
		a := q.answers()
		for i, list := range a.Lists {
			if e := a.Errors[5+i]; e != api.OK && slices.ContainsFunc(list, func(n int) bool { return n != 0 }) {
				t.Fatal(q, i, list, e)
			}
			if e := a.Errors[5+i]; e != api.OK && i != 7 && len(list) > 0 {
				t.Fatal(q, i, list, e)
			}
		}
		if a.Errors[10] != api.OK && a.Wins[0] || a.Errors[11] != api.OK && a.Wins[1] || a.Errors[13] != api.OK && len(a.Taken) > 0 {
			t.Fatal(q, a)
		}
	}
}

// R3: a nil list is an empty one.
func TestNilAndEmpty(t *testing.T) {
	empty := asked{
		m:    api.SkillMachine{Player: []bool{}, Moves: [][]int{}, Won: []bool{}},
		list: ints(), own: ints(), other: ints(), taken: pairs(),
	}
	if a, b := (asked{}).answers(), empty.answers(); !a.equal(b) {
		t.Error(a, b)
	}
	for _, m := range []api.SkillMachine{machineM(), machineN(), machine(own(), other())} {
		full := asked{m: cloned(m), list: ints(), own: ints(), other: ints(), taken: pairs()}
		for p := range m.Moves {
			if len(m.Moves[p]) == 0 {
				m.Moves[p], full.m.Moves[p] = nil, ints()
			}
		}
		if a, b := (asked{m: m}).answers(), full.answers(); !a.equal(b) {
			t.Error(a, b)
		}
	}
}

// roomy returns a list with two elements of room behind its end, that are all as the last argument.
func roomy[T any](list []T, behind T) []T {
	return append(slices.Clone(list), behind, behind)[:len(list)]
}

func isRoomy[T comparable](list []T, behind T) bool {
	room := list[:len(list)+2]
	return room[len(list)] == behind && room[len(list)+1] == behind
}

func (q asked) cloned() asked {
	return asked{cloned(q.m), slices.Clone(q.list), slices.Clone(q.own), slices.Clone(q.other), q.from, slices.Clone(q.taken)}
}

// same tells whether all arguments are the same; nil lists and empty ones are.
func (q asked) same(r asked) bool {
	return slices.Equal(q.m.Player, r.m.Player) && slices.Equal(q.m.Won, r.m.Won) &&
		slices.EqualFunc(q.m.Moves, r.m.Moves, slices.Equal[[]int]) && slices.Equal(q.list, r.list) &&
		slices.Equal(q.own, r.own) && slices.Equal(q.other, r.other) && slices.Equal(q.taken, r.taken)
}

// R4: no argument is changed, not even behind the end of a list.
func TestArgumentsStay(t *testing.T) {
	c := chance{at: 13}
	for _, m := range machines() {
		q := c.valid(m)
		before := q.cloned()
		q.m = api.SkillMachine{Player: roomy(m.Player, true), Won: roomy(m.Won, true)}
		for _, moves := range m.Moves {
			q.m.Moves = append(q.m.Moves, roomy(moves, 77))
		}
		q.list, q.own, q.other = roomy(q.list, 78), roomy(q.own, 79), roomy(q.other, 80)
		q.taken = roomy(q.taken, [2]int{81, 82})
		q.answers()
		if !q.same(before) {
			t.Fatal(before, q)
		}
		for _, moves := range q.m.Moves {
			if !isRoomy(moves, 77) {
				t.Fatal(before)
			}
		}
		if !isRoomy(q.m.Player, true) || !isRoomy(q.m.Won, true) || !isRoomy(q.list, 78) || !isRoomy(q.own, 79) ||
			!isRoomy(q.other, 80) || !isRoomy(q.taken, [2]int{81, 82}) {
			t.Fatal(before)
		}
	}
}

// R4, R9 and R10: a result that is changed changes no other one, and no argument.
func TestResultsAreApart(t *testing.T) {
	c := chance{at: 14}
	for _, m := range machines() {
		q := c.valid(m)
		before, first := q.cloned(), q.answers()
		far, _ := skill.Distances(q.m)
		ranks, _ := skill.CheckRanks(q.m, far)
		keep, _ := skill.Keep(q.m)
		way, _ := skill.Way(q.m)
		answer, _ := skill.Answer(q.m)
		play, _, _ := skill.Play(q.m, q.own, q.other, q.from)
		for _, list := range [][]int{far, ranks, keep, way, answer, play} {
			for i := range list {
				list[i] = 99
			}
		}
		taken, _ := skill.Taken(q.m, q.from)
		clear(taken)
		if !q.same(before) || !q.answers().equal(first) {
			t.Fatal(before, q)
		}
	}
}

// R9 and R10: equal calls return equal results, in whatever order and at once.
func TestAgain(t *testing.T) {
	c := chance{at: 15}
	var list []asked
	var want []answers
	for _, m := range machines()[280:600] {
		list = append(list, c.valid(m))
		want = append(want, list[len(list)-1].answers())
	}
	var wait sync.WaitGroup
	for from := range 8 {
		wait.Go(func() {
			for k := range list {
				i := (k*7 + from*13) % len(list)
				if got := list[i].answers(); !got.equal(want[i]) {
					t.Error(list[i], got, want[i])
				}
			}
		})
	}
	wait.Wait()
}
