package ledge_test

import (
	"math"
	"reflect"
	"slices"
	"sync"
	"testing"

	"pennyfall/api"
	"pennyfall/ledge"
)

// asked is the arguments of all functions.
type asked struct {
	places, place, coppers int
	drops, full, lie       []int
}

// answer is what a function returns.
type answer struct {
	List  []int
	Many  int64
	Error api.Errno
}

func (a answer) isZero() bool { return len(a.List) == 0 && a.Many == 0 }

func list(list []int, many int, e api.Errno) answer {
	return answer{append([]int{}, list...), int64(many), e}
}

func number(many int64, e api.Errno) answer { return answer{[]int{}, many, e} }

func (q asked) answers() []answer {
	over, e := ledge.CheckOver(q.places, q.drops, q.place)
	first, e2 := ledge.Over(q.places, q.drops)
	may, e3 := ledge.May(q.places, q.drops)
	return []answer{
		number(0, ledge.CheckDrops(q.places, q.drops)),
		list(ledge.Lie(q.places, q.drops)),
		list(ledge.Full(q.places, q.drops)),
		number(int64(over), e),
		number(int64(first), e2),
		number(0, ledge.CheckRow(q.places, q.drops)),
		list(may, 0, e3),
		number(ledge.Count(q.places, q.coppers)),
		number(ledge.Leave(q.places, q.full)),
		number(ledge.Ways(q.places, q.lie)),
		list(ledge.Round(q.places, q.drops)),
	}
}

func equal(a, b []answer) bool { return reflect.DeepEqual(a, b) }

// valid returns arguments that are valid.
func (c *chance) valid(q test) asked {
	all := make([]int, q.places)
	for at := range all {
		all[at] = at
	}
	out := asked{places: q.places, place: c.below(q.places), coppers: c.below(api.MaxLedgeDrops + 1), drops: q.drops}
	out.lie = c.mixed(all)[:c.below(q.places+1)]
	out.full = slices.Sorted(slices.Values(c.mixed(all)[:c.below(q.places+1)]))
	return out
}

// any changes arguments that are valid in several ways.
func (c *chance) any(q asked) asked {
	extreme := ints(math.MinInt, -2, -1, 0, 1, 5, 7, 8, 9, 12, 13, 14, 63, 64, math.MaxInt)
	number := func() int { return extreme[c.below(len(extreme))] }
	for _, n := range []*int{&q.places, &q.place, &q.coppers} {
		if c.below(3) == 0 {
			*n = number()
		}
	}
	for _, list := range []*[]int{&q.drops, &q.full, &q.lie} {
		if c.below(3) == 0 {
			*list = append(slices.Clone(*list)[:c.below(len(*list)+1)], slices.Repeat(ints(number()), c.below(16))...)
		}
	}
	return q
}

// P1 and R2: whatever the arguments are, all functions end and do not panic;
// with an error all other results are zero values.
func TestAnyArguments(t *testing.T) {
	c, failed := chance{at: 4}, map[api.Errno]int{}
	for _, q := range tests() {
		a := c.any(c.valid(q))
		for i, answer := range a.answers() {
			failed[answer.Error]++
			if answer.Error != api.OK && !answer.isZero() {
				t.Fatal(a, i, answer)
			}
		}
	}
	for _, e := range []api.Errno{api.OK, api.ErrArg, api.ErrRange, api.ErrMany, api.ErrFull, api.ErrHave, api.ErrLedge} {
		if failed[e] < 50 {
			t.Error("too few with an error:", e, failed[e])
		}
	}
	if len(failed) != 7 {
		t.Error("other errors than those of the chapter:", failed)
	}
}

// R3: a nil list is an empty one.
func TestNilAndEmpty(t *testing.T) {
	for places := range 12 {
		a := asked{places: places}.answers()
		b := asked{places: places, drops: ints(), full: ints(), lie: ints()}.answers()
		if !equal(a, b) {
			t.Error(places, a, b)
		}
	}
}

func (q asked) cloned() asked {
	q.drops, q.full, q.lie = slices.Clone(q.drops), slices.Clone(q.full), slices.Clone(q.lie)
	return q
}

func (q asked) same(r asked) bool {
	return slices.Equal(q.drops, r.drops) && slices.Equal(q.full, r.full) && slices.Equal(q.lie, r.lie)
}

// roomy returns a list with two elements of room behind its end.
func roomy(list []int) []int {
	return append(slices.Clone(list), 77, 78)[:len(list)]
}

func isRoomy(list []int) bool {
	return slices.Equal(list[len(list):len(list)+2], ints(77, 78))
}

// R4: no argument is changed, not even behind the end of a list.
func TestArgumentsStay(t *testing.T) {
	c := chance{at: 5}
	for _, q := range tests() {
		a := c.valid(q)
		before := a.cloned()
		a.drops, a.full, a.lie = roomy(a.drops), roomy(a.full), roomy(a.lie)
		a.answers()
		if !a.same(before) || !isRoomy(a.drops) || !isRoomy(a.full) || !isRoomy(a.lie) {
			t.Fatal(before, a)
		}
	}
}

// R4 and R10: a result that is changed changes no other one, and no argument.
func TestResultsAreApart(t *testing.T) {
	c := chance{at: 6}
	for _, q := range tests() {
		a := c.valid(q)
		before, first := a.cloned(), a.answers()
		lies, _, _ := ledge.Lie(a.places, a.drops)
		full, _, _ := ledge.Full(a.places, a.drops)
		may, _ := ledge.May(a.places, a.drops)
		round, _, _ := ledge.Round(a.places, a.drops)
		for _, list := range [][]int{lies, full, may, round} {
			list = list[:cap(list)]
			for i := range list {
				list[i] = 99
			}
		}
		if !a.same(before) || !equal(a.answers(), first) {
			t.Fatal(before, a)
		}
	}
}

// R9 and R10: equal calls return equal results, in whatever order and at once.
func TestAgain(t *testing.T) {
	c := chance{at: 7}
	var list []asked
	var want [][]answer
	all := tests()
	for i := 0; i < len(all); i += 23 {
		list = append(list, c.valid(all[i]))
		want = append(want, list[len(list)-1].answers())
	}
	var wait sync.WaitGroup
	for from := range 8 {
		wait.Go(func() {
			for k := range list {
				i := (k*7 + from*13) % len(list)
				if got := list[i].answers(); !equal(got, want[i]) {
					t.Error(list[i], got, want[i])
				}
			}
		})
	}
	wait.Wait()
}
