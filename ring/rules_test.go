package ring_test

import (
	"math"
	"reflect"
	"slices"
	"sync"
	"testing"

	"pennyfall/api"
	"pennyfall/ring"
)

// asked is the arguments of all functions.
type asked struct {
	b                   api.RingBook
	rings, group, round []int
	one, two, many      int
}

// answer is what a function returns.
type answer struct {
	List  []int
	Day   int64
	Many  int64
	Error api.Errno
}

func (a answer) isZero() bool { return len(a.List) == 0 && a.Day == 0 && a.Many == 0 }

// number is the answer of a function that returns one, list that of one that returns
// a list.
func number[N int | int64](many N, e api.Errno) answer { return answer{Many: int64(many), Error: e} }

func list(all []int, e api.Errno) answer { return answer{List: append(ints(), all...), Error: e} }

// whichDay is the place of that of Day.
const whichDay = 10

func (q asked) answers() []answer {
	day, many, e := ring.Day(q.b)
	return []answer{
		number(0, ring.CheckBook(q.b)),
		number(0, ring.Pair(q.b, q.one, q.two)),
		number(ring.CheckRings(q.b, q.rings)),
		number(ring.Fewest(q.b)),
		list(ring.Rings(q.b)),
		number(ring.Count(q.b, q.many)),
		number(0, ring.CheckGroup(q.b, q.group)),
		list(ring.Group(q.b)),
		number(0, ring.CheckCircle(q.b, q.round)),
		list(ring.Circle(q.b)),
		whichDay: {Day: day, Many: int64(many), Error: e},
		number(ring.Kind(q.b, q.one, q.two)),
	}
}

func equal(a, b []answer) bool { return reflect.DeepEqual(a, b) }

// valid returns arguments that are valid, of a book; if it has but one key, there are
// no two.
func (c *chance) valid(b api.RingBook) asked {
	g := graphOf(b)
	out := asked{
		b:     cloned(b),
		rings: c.right(g),
		group: members(1 + c.below(1<<len(g)-1)),
		one:   c.below(len(g)),
		two:   c.below(len(g)),
		many:  c.below(api.MaxRingKeys + 1),
	}
	out.round, _ = ring.Circle(b)
	return out
}

// spoiled returns a list of which an element, or the end, may be another one.
func spoiled[T any](c *chance, list []T, x T) []T {
	list = slices.Clone(list)
	switch c.below(8) {
	case 0:
		return append(list[:c.below(len(list)+1)], slices.Repeat([]T{x}, c.below(12))...)
	case 1:
		if len(list) > 0 {
			list[c.below(len(list))] = x
		}
	}
	return list
}

// invalid changes arguments that are valid in several ways.
func (c *chance) invalid(q asked) asked {
	extreme := []int64{math.MinInt64, -1001, -2, -1, 0, 1, 2, 3, 5, 7, 8, 9, 12, 13, 1000, 1001, math.MaxInt64}
	number := func() int { return int(oneOf(c, extreme)) }
	for _, n := range []*int{&q.one, &q.two, &q.many} {
		if c.below(4) == 0 {
			*n = number()
		}
	}
	q.rings, q.group, q.round = spoiled(c, q.rings, number()), spoiled(c, q.group, number()), spoiled(c, q.round, number())
	if c.below(3) == 0 {
		q.b.Keys = spoiled(c, q.b.Keys, key(int64(number()), int64(number())))
		q.b.Quarrels = spoiled(c, q.b.Quarrels, [2]int{number(), number()})
	}
	return q
}

// P1 and R2: whatever the arguments are, all functions end and do not panic; with
// an error all other results are zero values.
func TestAnyArguments(t *testing.T) {
	c, failed := chance{at: 9}, map[api.Errno]int{}
	for _, b := range append(all(), great()...) {
		q := c.invalid(c.valid(b))
		for i, answer := range q.answers() {
			failed[answer.Error]++
			if answer.Error != api.OK && !answer.isZero() {
				t.Fatal(q, i, answer)
			}
		}
	}
	for _, e := range []api.Errno{
		api.OK, api.ErrArg, api.ErrRange, api.ErrNone, api.ErrMany, api.ErrSum, api.ErrEqual, api.ErrRule, api.ErrRing,
	} {
		if failed[e] < 50 {
			t.Error("too few with an error:", e, failed[e])
		}
	}
	if len(failed) != 9 {
		t.Error("other errors than those of the chapter:", failed)
	}
}

// R3: a nil list is an empty one.
func TestNilAndEmpty(t *testing.T) {
	for _, b := range append(great(), book(nil), book(nil, 0, 1)) {
		nils := asked{b: cloned(b)}
		empties := asked{b: cloned(b), rings: ints(), group: ints(), round: ints()}
		if len(b.Keys) == 0 {
			nils.b.Keys, empties.b.Keys = nil, keys(key(0, 0))[:0]
		}
		if len(b.Quarrels) == 0 {
			nils.b.Quarrels, empties.b.Quarrels = nil, [][2]int{}
		}
		if !equal(nils.answers(), empties.answers()) {
			t.Fatal(b, nils.answers(), empties.answers())
		}
	}
}

func (q asked) cloned() asked {
	q.b, q.rings = cloned(q.b), slices.Clone(q.rings)
	q.group, q.round = slices.Clone(q.group), slices.Clone(q.round)
	return q
}

func (q asked) same(r asked) bool {
	return slices.Equal(q.b.Keys, r.b.Keys) && slices.Equal(q.b.Quarrels, r.b.Quarrels) &&
		slices.Equal(q.rings, r.rings) && slices.Equal(q.group, r.group) && slices.Equal(q.round, r.round)
}

// roomy returns a list with two elements of room behind its end.
func roomy[T any](list []T, x T) []T { return append(slices.Clone(list), x, x)[:len(list)] }

func isRoomy[T comparable](list []T, x T) bool {
	return slices.Equal(list[len(list):len(list)+2], []T{x, x})
}

// R4: no argument is changed, not even behind the end of a list.
func TestArgumentsStay(t *testing.T) {
	c, k, pair := chance{at: 11}, key(77, 77), [2]int{77, 77}
	for _, b := range all() {
		q := c.valid(b)
		before := q.cloned()
		q.b.Keys, q.b.Quarrels = roomy(q.b.Keys, k), roomy(q.b.Quarrels, pair)
		q.rings, q.group, q.round = roomy(q.rings, 77), roomy(q.group, 77), roomy(q.round, 77)
		q.answers()
		kept := isRoomy(q.b.Keys, k) && isRoomy(q.b.Quarrels, pair) &&
			isRoomy(q.rings, 77) && isRoomy(q.group, 77) && isRoomy(q.round, 77)
		if !kept || !q.same(before) {
			t.Fatal(before, q)
		}
	}
}

// spoil changes all elements of a list, and those behind its end.
func spoil(list []int) {
	list = list[:cap(list)]
	for i := range list {
		list[i] = 99
	}
}

// R4 and R10: a result that is changed changes no other one, and no argument.
func TestResultsAreApart(t *testing.T) {
	c := chance{at: 12}
	for _, b := range all() {
		q := c.valid(b)
		before, first := q.cloned(), q.answers()
		circle, _ := ring.Circle(q.b)
		spoil(circle)
		spoil(must(t, ring.Rings, q.b))
		spoil(must(t, ring.Group, q.b))
		if !q.same(before) || !equal(q.answers(), first) {
			t.Fatal(before, q)
		}
	}
}

// R9 and R10: equal calls return equal results, in whatever order and at once.
func TestAgain(t *testing.T) {
	c := chance{at: 13}
	var list []asked
	var want [][]answer
	for i, b := range all() {
		if i%5 == 0 {
			q := c.valid(b)
			list, want = append(list, q), append(want, q.answers())
		}
	}
	var wait sync.WaitGroup
	for from := range 8 {
		wait.Go(func() {
			for k := range list {
				i := (k*7 + from*13) % len(list)
				if got := list[i].answers(); !equal(got, want[i]) {
					t.Error(list[i], got, want[i])
				}
			}
		})
	}
	wait.Wait()
}
