package box_test

import (
	"math"
	"reflect"
	"slices"
	"sync"
	"testing"

	"pennyfall/api"
	"pennyfall/box"
)

// asked is the arguments of all functions.
type asked struct {
	h                          api.BoxHall
	truth                      []int64
	stores, wrong              []int
	side, move, store, reading int
}

// answer is what a function returns.
type answer struct {
	List    []int
	Numbers []int64
	Range   api.Range
	Many    int64
	Error   api.Errno
}

func (a answer) isZero() bool {
	return len(a.List) == 0 && len(a.Numbers) == 0 && a.Range == api.Range{} && a.Many == 0
}

func number(many int64, e api.Errno) answer { return answer{Many: many, Error: e} }

func list(many int, list []int, e api.Errno) answer {
	return answer{List: append([]int{}, list...), Many: int64(many), Error: e}
}

func ends(r api.Range, e api.Errno) answer { return answer{Range: r, Error: e} }

func (q asked) answers() []answer {
	truth, e := box.Truth(q.h)
	wrong, e2 := box.Wrong(q.h)
	kind, e3 := box.Kind(q.h, q.reading)
	return []answer{
		number(0, box.CheckHall(q.h)),
		number(0, box.CheckTruth(q.h, q.truth)),
		{Numbers: append([]int64{}, truth...), Error: e},
		number(box.CheckPart(q.h, q.side, q.stores)),
		list(box.Part(q.h)),
		ends(box.Span(q.h, q.move)),
		ends(box.Gain(q.h, q.store)),
		number(0, box.CheckWrong(q.h, q.wrong)),
		list(0, wrong, e2),
		number(int64(kind), e3),
	}
}

func equal(a, b []answer) bool { return reflect.DeepEqual(a, b) }

// valid returns arguments that are valid, but that there may be no move.
func (c *chance) valid(h api.BoxHall) asked {
	return asked{
		h:       cloned(h),
		truth:   c.truth(len(h.Moves), 100),
		stores:  members(1 + c.below(1<<len(h.Gains)-1)),
		wrong:   members(c.below(1 << readings(h))),
		side:    1 + c.below(2),
		move:    c.below(max(1, len(h.Moves))),
		store:   c.below(len(h.Gains)),
		reading: c.below(readings(h)),
	}
}

// changed returns a list of which the end may be another one.
func changed[T any](c *chance, list []T, x T) []T {
	if c.below(5) > 0 {
		return list
	}
	return append(slices.Clone(list)[:c.below(len(list)+1)], slices.Repeat([]T{x}, c.below(10))...)
}

// invalid changes arguments that are valid in several ways.
func (c *chance) invalid(q asked) asked {
	extreme := numbers(math.MinInt64, -701, -700, -2, -1, 0, 1, 2, 3, 5, 6, 7, 8, 12, 100, 101, 700, 701, math.MaxInt64)
	number := func() int64 { return extreme[c.below(len(extreme))] }
	for _, n := range []*int{&q.side, &q.move, &q.store, &q.reading} {
		if c.below(4) == 0 {
			*n = int(number())
		}
	}
	q.truth = changed(c, q.truth, number())
	q.stores, q.wrong = changed(c, q.stores, int(number())), changed(c, q.wrong, int(number()))
	if c.below(3) > 0 {
		return q
	}
	q.h.Moves = changed(c, q.h.Moves, move(int(number()), int(number()), number(), number()))
	q.h.Gains = changed(c, q.h.Gains, ranged(number(), number()))
	for i := range q.h.Moves {
		m := &q.h.Moves[i]
		if c.below(8) == 0 {
			m.To = int(number())
		}
		if c.below(8) == 0 {
			m.Count.Hi = number()
		}
	}
	return q
}

// P1 and R2: whatever the arguments are, all functions end and do not panic; with
// an error all other results are zero values.
func TestAnyArguments(t *testing.T) {
	c, failed := chance{at: 9}, map[api.Errno]int{}
	for _, h := range all() {
		q := c.invalid(c.valid(h))
		for i, answer := range q.answers() {
			failed[answer.Error]++
			if answer.Error != api.OK && !answer.isZero() {
				t.Fatal(q, i, answer)
			}
		}
	}
	for _, e := range []api.Errno{
		api.OK, api.ErrArg, api.ErrRange, api.ErrNone, api.ErrMany, api.ErrSum, api.ErrEqual, api.ErrRule, api.ErrBox,
	} {
		if failed[e] < 50 {
			t.Error("too few with an error:", e, failed[e])
		}
	}
	if len(failed) != 9 {
		t.Error("other errors than those of the chapter:", failed)
	}
}

// R3: a nil list is an empty one.
func TestNilAndEmpty(t *testing.T) {
	c := chance{at: 10}
	for _, h := range append(all()[:500], hall(nil), hall(nil, move(0, 1, 0, 0))) {
		a := asked{h: cloned(h), side: 1 + c.below(2)}
		if c.below(3) == 0 {
			a.h.Moves = nil
		}
		b := a
		b.truth, b.stores, b.wrong = numbers(), ints(), ints()
		b.h = api.BoxHall{Moves: append([]api.BoxMove{}, a.h.Moves...), Gains: append([]api.Range{}, a.h.Gains...)}
		if !equal(a.answers(), b.answers()) {
			t.Error(a, a.answers(), b.answers())
		}
	}
}

func (q asked) cloned() asked {
	q.h, q.truth = cloned(q.h), slices.Clone(q.truth)
	q.stores, q.wrong = slices.Clone(q.stores), slices.Clone(q.wrong)
	return q
}

func (q asked) same(r asked) bool {
	return same(q.h, r.h) && slices.Equal(q.truth, r.truth) &&
		slices.Equal(q.stores, r.stores) && slices.Equal(q.wrong, r.wrong)
}

// roomy returns a list with two elements of room behind its end.
func roomy[T any](list []T, x T) []T {
	return append(slices.Clone(list), x, x)[:len(list)]
}

func isRoomy[T comparable](list []T, x T) bool {
	return slices.Equal(list[len(list):len(list)+2], []T{x, x})
}

// R4: no argument is changed, not even behind the end of a list.
func TestArgumentsStay(t *testing.T) {
	c, m, r := chance{at: 11}, move(7, 7, 77, 77), ranged(77, 78)
	for _, h := range all() {
		q := c.valid(h)
		before := q.cloned()
		q.h.Moves, q.h.Gains, q.truth = roomy(q.h.Moves, m), roomy(q.h.Gains, r), roomy(q.truth, 77)
		q.stores, q.wrong = roomy(q.stores, 77), roomy(q.wrong, 77)
		q.answers()
		if !q.same(before) || !isRoomy(q.h.Moves, m) || !isRoomy(q.h.Gains, r) || !isRoomy(q.truth, 77) ||
			!isRoomy(q.stores, 77) || !isRoomy(q.wrong, 77) {
			t.Fatal(before, q)
		}
	}
}

// spoil changes all elements of a list, and those behind its end.
func spoil[T int | int64](list []T) {
	list = list[:cap(list)]
	for i := range list {
		list[i] = 99
	}
}

// R4 and R10: a result that is changed changes no other one, and no argument.
func TestResultsAreApart(t *testing.T) {
	c := chance{at: 12}
	for _, h := range all() {
		q := c.valid(h)
		before, first := q.cloned(), q.answers()
		truth, _ := box.Truth(q.h)
		_, stores, _ := box.Part(q.h)
		wrong, _ := box.Wrong(q.h)
		spoil(truth)
		spoil(stores)
		spoil(wrong)
		if !q.same(before) || !equal(q.answers(), first) {
			t.Fatal(before, q)
		}
	}
}

// R9 and R10: equal calls return equal results, in whatever order and at once.
func TestAgain(t *testing.T) {
	c := chance{at: 13}
	var list []asked
	var want [][]answer
	halls := all()
	for i := 0; i < len(halls); i += 13 {
		list = append(list, c.valid(halls[i]))
		want = append(want, list[len(list)-1].answers())
	}
	var wait sync.WaitGroup
	for from := range 8 {
		wait.Go(func() {
			for k := range list {
				i := (k*7 + from*13) % len(list)
				if got := list[i].answers(); !equal(got, want[i]) {
					t.Error(list[i], got, want[i])
				}
			}
		})
	}
	wait.Wait()
}
