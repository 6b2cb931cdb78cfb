package slug_test

import (
	"math"
	"reflect"
	"slices"
	"sync"
	"testing"

	"pennyfall/api"
	"pennyfall/slug"
)

// asked is the arguments of all functions.
type asked struct {
	k          api.SlugKnown
	w, results []int
	plan       [][]int
	result     int
	c          api.SlugCase
}

// answer is what a function returns.
type answer struct {
	Cases []api.SlugCase
	List  []int
	None  bool
	Many  int
	Error api.Errno
}

func (a answer) isZero() bool {
	return len(a.Cases) == 0 && len(a.List) == 0 && !a.None && a.Many == 0
}

func list(l []int, e api.Errno) answer { return answer{List: append([]int{}, l...), Error: e} }

func number(many int, e api.Errno) answer { return answer{Many: many, Error: e} }

func ofCases(c []api.SlugCase, e api.Errno) answer {
	return answer{Cases: append([]api.SlugCase{}, c...), Error: e}
}

func (q asked) answers() []answer {
	learned, e := slug.Learned(q.k, q.w, q.result)
	first, second, e2 := slug.Alike(q.k, q.plan)
	pair := cases(first, second)
	if first == second { // zero values
		pair = slices.DeleteFunc(pair, func(c api.SlugCase) bool { return c == api.SlugCase{} })
	}
	return []answer{
		number(0, slug.CheckKnown(q.k)),
		ofCases(slug.Cases(q.k)),
		number(0, slug.CheckWeighing(q.k, q.w)),
		number(slug.Result(q.k, q.w, q.c)),
		{List: append([]int{}, learned.Coppers...), None: learned.None, Error: e},
		number(0, slug.CheckPlan(q.k, q.plan)),
		ofCases(pair, e2),
		ofCases(slug.Told(q.k, q.plan, q.results)),
		number(slug.Bound(q.k)),
		number(slug.Needed(q.k)),
		list(slug.Next(q.k)),
		number(slug.After(q.k, q.w)),
	}
}

func equal(a, b []answer) bool { return reflect.DeepEqual(a, b) }

// valid returns arguments that are valid.
func (c *chance) valid(k api.SlugKnown) asked {
	all := casesOf(k)
	out := asked{k: k, c: all[c.below(len(all))], result: c.below(3) - 1}
	out.w = c.weighing(len(k.Coppers))
	out.plan = c.plan(len(k.Coppers), c.below(api.MaxSlugWeighings+1))
	out.results = resultsOf(out.plan, out.c)
	return out
}

// any changes arguments that are valid in several ways.
func (c *chance) any(q asked) asked {
	extreme := ints(math.MinInt, -3, -2, -1, 0, 1, 2, 3, 4, 11, 12, 13, 63, 64, math.MaxInt)
	number := func() int { return extreme[c.below(len(extreme))] }
	change := func(list []int) []int {
		if c.below(4) > 0 {
			return list
		}
		return append(slices.Clone(list)[:c.below(len(list)+1)], slices.Repeat(ints(number()), c.below(16))...)
	}
	q = q.cloned()
	for _, n := range []*int{&q.result, &q.c.Copper, &q.c.Kind} {
		if c.below(4) == 0 {
			*n = number()
		}
	}
	q.k.Coppers, q.w, q.results = change(q.k.Coppers), change(q.w), change(q.results)
	for i := range q.plan {
		q.plan[i] = change(q.plan[i])
	}
	if c.below(6) == 0 {
		q.plan = append(q.plan, q.plan...)
	}
	return q
}

// P1 and R2: whatever the arguments are, all functions end and do not panic;
// with an error all other results are zero values.
func TestAnyArguments(t *testing.T) {
	c, failed := chance{at: 8}, map[api.Errno]int{}
	for range 3 {
		for _, k := range some() {
			a := c.any(c.valid(k))
			for i, answer := range a.answers() {
				failed[answer.Error]++
				if answer.Error != api.OK && !answer.isZero() {
					t.Fatal(a, i, answer)
				}
			}
		}
	}
	for _, e := range []api.Errno{api.OK, api.ErrArg, api.ErrRange, api.ErrNone, api.ErrMany, api.ErrSum, api.ErrEqual, api.ErrSlug} {
		if failed[e] < 50 {
			t.Error("too few with an error:", e, failed[e])
		}
	}
	if len(failed) != 8 {
		t.Error("other errors than those of the chapter:", failed)
	}
}

// R3: a nil list is an empty one.
func TestNilAndEmpty(t *testing.T) {
	for _, k := range append(small(2), known(), known(0), orNone(known())) {
		a := asked{k: k, c: none()}
		b := asked{k: k, c: none(), w: ints(), results: ints(), plan: plan()}
		if len(k.Coppers) == 0 {
			a.k.Coppers, b.k.Coppers = nil, ints()
		}
		if !equal(a.answers(), b.answers()) {
			t.Error(k, a.answers(), b.answers())
		}
		a.plan, b.plan = plan(nil), plan(ints())
		if !equal(a.answers(), b.answers()) {
			t.Error(k, a.answers(), b.answers())
		}
	}
}

func (q asked) cloned() asked {
	q.k.Coppers, q.w, q.results = slices.Clone(q.k.Coppers), slices.Clone(q.w), slices.Clone(q.results)
	q.plan = slices.Clone(q.plan)
	for i, w := range q.plan {
		q.plan[i] = slices.Clone(w)
	}
	return q
}

func (q asked) same(r asked) bool {
	return same(q.k, r.k) && slices.Equal(q.w, r.w) && slices.Equal(q.results, r.results) &&
		slices.EqualFunc(q.plan, r.plan, slices.Equal[[]int])
}

// roomy returns a list with two elements of room behind its end.
func roomy(list []int) []int {
	return append(slices.Clone(list), 77, 78)[:len(list)]
}

func isRoomy(list []int) bool {
	return slices.Equal(list[len(list):len(list)+2], ints(77, 78))
}

// lists returns all lists of numbers among the arguments.
func (q *asked) lists() []*[]int {
	out := []*[]int{&q.k.Coppers, &q.w, &q.results}
	for i := range q.plan {
		out = append(out, &q.plan[i])
	}
	return out
}

// R4: no argument is changed, not even behind the end of a list.
func TestArgumentsStay(t *testing.T) {
	c := chance{at: 9}
	for _, k := range some() {
		a := c.valid(k)
		before := a.cloned()
		for _, list := range a.lists() {
			*list = roomy(*list)
		}
		extra := ints(79)
		a.plan = append(slices.Clone(a.plan), extra)[:len(a.plan)]
		a.answers()
		if !a.same(before) || !slices.Equal(a.plan[:len(a.plan)+1][len(a.plan)], extra) {
			t.Fatal(before, a)
		}
		for _, list := range a.lists() {
			if !isRoomy(*list) {
				t.Fatal(before, a)
			}
		}
	}
}

// spoil changes all numbers of a list, and those behind its end.
func spoil(list []int) {
	list = list[:cap(list)]
	for i := range list {
		list[i] = 99
	}
}

// R4 and R10: a result that is changed changes no other one, and no argument.
func TestResultsAreApart(t *testing.T) {
	c := chance{at: 10}
	for _, k := range some() {
		a := c.valid(k)
		before, first := a.cloned(), a.answers()
		all, _ := slug.Cases(a.k)
		told, _ := slug.Told(a.k, a.plan, a.results)
		for _, list := range [][]api.SlugCase{all[:cap(all)], told[:cap(told)]} {
			for i := range list {
				list[i] = heavy(99)
			}
		}
		learned, _ := slug.Learned(a.k, a.w, a.result)
		next, _ := slug.Next(a.k)
		spoil(learned.Coppers)
		spoil(next)
		if !a.same(before) || !equal(a.answers(), first) {
			t.Fatal(before, a)
		}
	}
}

// R9 and R10: equal calls return equal results, in whatever order and at once.
func TestAgain(t *testing.T) {
	c := chance{at: 11}
	var list []asked
	var want [][]answer
	all := some()
	for i := 0; i < len(all); i += 11 {
		list = append(list, c.valid(all[i]))
		want = append(want, list[len(list)-1].answers())
	}
	var wait sync.WaitGroup
	for from := range 8 {
		wait.Go(func() {
			for k := range list {
				i := (k*7 + from*13) % len(list)
				if got := list[i].answers(); !equal(got, want[i]) {
					t.Error(list[i], got, want[i])
				}
			}
		})
	}
	wait.Wait()
}
