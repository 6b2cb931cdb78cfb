package round_test

import (
	"math"
	"reflect"
	"slices"
	"sync"
	"testing"

	"pennyfall/api"
	"pennyfall/round"
)

// asked is the arguments of all functions.
type asked struct {
	p           api.RoundPier
	list, stops []int
	stop        int
	bounds      [][][2]int64
}

// answer is what a function returns.
type answer struct {
	List   []int
	Steps  []int64
	Bounds [][][2]int64
	Range  api.Range
	Many   int64
	Error  api.Errno
}

func (a answer) isZero() bool {
	return len(a.List)+len(a.Steps)+len(a.Bounds) == 0 && a.Range == api.Range{} && a.Many == 0
}

// number is the answer of a function that returns one, list that of one that returns
// a list of stops.
func number[N int | int64](many N, e api.Errno) answer { return answer{Many: int64(many), Error: e} }

func list(stops []int, e api.Errno) answer { return answer{List: append(ints(), stops...), Error: e} }

func (q asked) answers() []answer {
	steps, e := round.CheckRound(q.p, q.list)
	span, f := round.Within(q.p, q.stop)
	bounds, g := round.Bounds(q.p)
	return []answer{
		number(0, round.CheckPier(q.p)),
		{Steps: append([]int64{}, steps...), Error: e},
		number(round.Shortest(q.p)),
		list(round.Round(q.p)),
		number(round.Count(q.p)),
		{Range: span, Error: f},
		number(round.Delay(q.p)),
		number(round.CheckBounds(q.p, q.bounds)),
		{Bounds: bounds, Error: g},
		number(0, round.CheckClash(q.p, q.stops)),
		list(round.Clash(q.p)),
	}
}

func equal(a, b []answer) bool { return reflect.DeepEqual(a, b) }

// valid returns arguments that are valid, of a pier.
func (c *chance) valid(p api.RoundPier) asked {
	return asked{
		p:      cloned(p),
		list:   oneOf(c, roundsOf(p)),
		stops:  members(c.below(1 << len(p.Stops))),
		stop:   c.below(len(p.Stops)),
		bounds: c.right(p),
	}
}

// spoiled returns a list of which an element, or the end, may be another one.
func spoiled[T any](c *chance, list []T, x T) []T {
	list = slices.Clone(list)
	switch c.below(8) {
	case 0:
		return append(list[:c.below(len(list)+1)], slices.Repeat([]T{x}, c.below(12))...)
	case 1:
		if len(list) > 0 {
			list[c.below(len(list))] = x
		}
	}
	return list
}

// invalid changes arguments that are valid in several ways.
func (c *chance) invalid(q asked) asked {
	extreme := []int64{math.MinInt64, -9001, -2, -1, 0, 1, 2, 3, 5, 9, 10, 11, 1000, 1001, 9000, 9001, math.MaxInt64}
	number := func() int64 { return oneOf(c, extreme) }
	if c.below(4) == 0 {
		q.stop = int(number())
	}
	q.list, q.stops = spoiled(c, q.list, int(number())), spoiled(c, q.stops, int(number()))
	row := oneOf(c, q.bounds)
	q.bounds = spoiled(c, q.bounds, spoiled(c, row, [2]int64{number(), number()}))
	if c.below(3) == 0 {
		q.p.Stops = spoiled(c, q.p.Stops, stop(number(), number()))
		if c.below(4) == 0 {
			q.p.Begin = number()
		}
	}
	return q
}

// P1 and R2: whatever the arguments are, all functions end and do not panic; with
// an error all other results are zero values.
func TestAnyArguments(t *testing.T) {
	c, failed := chance{at: 9}, map[api.Errno]int{}
	for _, p := range append(all(), great()...) {
		q := c.invalid(c.valid(p))
		for i, answer := range q.answers() {
			failed[answer.Error]++
			if answer.Error != api.OK && !answer.isZero() {
				t.Fatal(q, i, answer)
			}
		}
	}
	for _, e := range []api.Errno{
		api.OK, api.ErrArg, api.ErrRange, api.ErrNone, api.ErrMany, api.ErrLate, api.ErrSum, api.ErrEqual, api.ErrRule,
	} {
		if failed[e] < 50 {
			t.Error("too few with an error:", e, failed[e])
		}
	}
	if len(failed) != 9 {
		t.Error("other errors than those of the chapter:", failed)
	}
}

// R3: a nil list is an empty one.
func TestNilAndEmpty(t *testing.T) {
	for _, p := range append(great()[:500], pier(5)) {
		for rows := range lefts(p) + 2 {
			a := asked{p: cloned(p), bounds: make([][][2]int64, rows)}
			b := asked{p: cloned(p), bounds: make([][][2]int64, rows), list: ints(), stops: ints()}
			for i := range b.bounds {
				b.bounds[i] = [][2]int64{}
			}
			if len(p.Stops) == 0 {
				a.p.Stops, b.p.Stops = nil, []api.RoundStop{}
			}
			if !equal(a.answers(), b.answers()) {
				t.Fatal(a, a.answers(), b.answers())
			}
		}
	}
}

func clonedBounds(bounds [][][2]int64) [][][2]int64 {
	var out [][][2]int64
	for _, row := range bounds {
		out = append(out, slices.Clone(row))
	}
	return out
}

func (q asked) cloned() asked {
	q.p, q.list, q.stops, q.bounds = cloned(q.p), slices.Clone(q.list), slices.Clone(q.stops), clonedBounds(q.bounds)
	return q
}

func (q asked) same(r asked) bool {
	return slices.Equal(q.p.Stops, r.p.Stops) && slices.Equal(q.list, r.list) &&
		slices.Equal(q.stops, r.stops) && slices.EqualFunc(q.bounds, r.bounds, slices.Equal)
}

// roomy returns a list with two elements of room behind its end.
func roomy[T any](list []T, x T) []T { return append(slices.Clone(list), x, x)[:len(list)] }

func isRoomy[T comparable](list []T, x T) bool {
	return slices.Equal(list[len(list):len(list)+2], []T{x, x})
}

// R4: no argument is changed, not even behind the end of a list.
func TestArgumentsStay(t *testing.T) {
	c, s, pair := chance{at: 11}, stop(77, 77), [2]int64{77, 77}
	for _, p := range all() {
		q := c.valid(p)
		before := q.cloned()
		q.p.Stops, q.list, q.stops = roomy(q.p.Stops, s), roomy(q.list, 77), roomy(q.stops, 77)
		for i, row := range q.bounds {
			q.bounds[i] = roomy(row, pair)
		}
		q.answers()
		kept := isRoomy(q.p.Stops, s) && isRoomy(q.list, 77) && isRoomy(q.stops, 77)
		for _, row := range q.bounds {
			kept = kept && isRoomy(row, pair)
		}
		if !kept || !q.same(before) {
			t.Fatal(before, q)
		}
	}
}

// spoil changes all elements of a list, and those behind its end.
func spoil[T any](list []T, x T) {
	list = list[:cap(list)]
	for i := range list {
		list[i] = x
	}
}

// R4 and R10: a result that is changed changes no other one, no other part of it,
// and no argument.
func TestResultsAreApart(t *testing.T) {
	c := chance{at: 12}
	for _, p := range all() {
		q := c.valid(p)
		before, first := q.cloned(), q.answers()
		steps, _ := round.CheckRound(q.p, q.list)
		list, _ := round.Round(q.p)
		stops, _ := round.Clash(q.p)
		spoil(steps, 99)
		spoil(list, 99)
		spoil(stops, 99)
		bounds := must(t, round.Bounds, q.p)
		for i, row := range bounds {
			rest := clonedBounds(bounds[i+1:])
			spoil(row, [2]int64{99, 99})
			if !slices.EqualFunc(bounds[i+1:], rest, slices.Equal) {
				t.Fatal(p, i, bounds)
			}
		}
		if !q.same(before) || !equal(q.answers(), first) {
			t.Fatal(before, q)
		}
	}
}

// R9 and R10: equal calls return equal results, in whatever order and at once.
func TestAgain(t *testing.T) {
	c := chance{at: 13}
	var list []asked
	var want [][]answer
	for i, p := range all() {
		if i%13 == 0 {
			q := c.valid(p)
			list, want = append(list, q), append(want, q.answers())
		}
	}
	var wait sync.WaitGroup
	for from := range 8 {
		wait.Go(func() {
			for k := range list {
				i := (k*7 + from*13) % len(list)
				if got := list[i].answers(); !equal(got, want[i]) {
					t.Error(list[i], got, want[i])
				}
			}
		})
	}
	wait.Wait()
}
