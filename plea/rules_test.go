package plea_test

import (
	"math"
	"reflect"
	"slices"
	"sync"
	"testing"

	"pennyfall/api"
	"pennyfall/plea"
)

// asked is the arguments of all functions.
type asked struct {
	c            api.PleaCase
	truth, steps []int
	fact, rule   int
}

// answer is what a function returns.
type answer struct {
	List  []int
	Many  int
	Is    bool
	Error api.Errno
}

func (a answer) isZero() bool { return len(a.List) == 0 && a.Many == 0 && !a.Is }

// number is the answer of a function that returns one, list that of one that returns
// a list.
func number(many int, e api.Errno) answer { return answer{Many: many, Error: e} }

func list(all []int, e api.Errno) answer { return answer{List: append(ints(), all...), Error: e} }

func (q asked) answers() []answer {
	facts, isClash, e := plea.CheckSteps(q.c, q.steps)
	isIdle, f := plea.Idle(q.c, q.rule)
	return []answer{
		number(0, plea.CheckCase(q.c)),
		number(0, plea.CheckTruth(q.c, q.truth)),
		list(plea.Least(q.c)),
		number(plea.Count(q.c)),
		number(plea.Verdict(q.c, q.fact)),
		{List: append(ints(), facts...), Is: isClash, Error: e},
		list(plea.Steps(q.c, q.fact)),
		list(plea.Clash(q.c)),
		list(plea.Needed(q.c, q.fact)),
		list(plea.Wrong(q.c)),
		{Is: isIdle, Error: f},
	}
}

func equal(a, b []answer) bool { return reflect.DeepEqual(a, b) }

// valid returns arguments that are valid, of a case; if it has no rules, there is no
// rule.
func (c *chance) valid(x api.PleaCase) asked {
	out := asked{c: cloned(x), steps: c.taken(x), fact: c.below(x.Facts)}
	out.truth, _ = plea.Least(x)
	if len(x.Rules) > 0 {
		out.rule = c.below(len(x.Rules))
	}
	return out
}

// spoiled returns a list of which an element, or the end, may be another one.
func spoiled[T any](c *chance, list []T, x T) []T {
	list = slices.Clone(list)
	switch c.below(8) {
	case 0:
		return append(list[:c.below(len(list)+1)], slices.Repeat([]T{x}, c.below(18))...)
	case 1:
		if len(list) > 0 {
			list[c.below(len(list))] = x
		}
	}
	return list
}

// invalid changes arguments that are valid in several ways.
func (c *chance) invalid(q asked) asked {
	extreme := ints(math.MinInt, -13, -2, -1, 0, 1, 2, 3, 5, 8, 11, 12, 13, 14, 15, math.MaxInt)
	number := func() int { return oneOf(c, extreme) }
	for _, n := range []*int{&q.fact, &q.rule} {
		if c.below(4) == 0 {
			*n = number()
		}
	}
	q.truth, q.steps = spoiled(c, q.truth, number()), spoiled(c, q.steps, number())
	if c.below(3) == 0 {
		if c.below(3) == 0 {
			q.c.Facts = number()
		}
		q.c.Seen = spoiled(c, q.c.Seen, number())
		q.c.Rules = spoiled(c, q.c.Rules, rule(number(), spoiled(c, ints(number()), number())...))
	}
	return q
}

// P1 and R2: whatever the arguments are, all functions end and do not panic; with
// an error all other results are zero values.
func TestAnyArguments(t *testing.T) {
	c, failed := chance{at: 9}, map[api.Errno]int{}
	for _, x := range append(all(), great()...) {
		q := c.invalid(c.valid(x))
		for i, answer := range q.answers() {
			failed[answer.Error]++
			if answer.Error != api.OK && !answer.isZero() {
				t.Fatal(q, i, answer)
			}
		}
	}
	for _, e := range []api.Errno{
		api.OK, api.ErrArg, api.ErrRange, api.ErrNone, api.ErrMany, api.ErrHave, api.ErrRule, api.ErrPlea,
	} {
		if failed[e] < 50 {
			t.Error("too few with an error:", e, failed[e])
		}
	}
	if len(failed) != 8 {
		t.Error("other errors than those of the chapter:", failed)
	}
}

// emptied returns a case whose lists without elements are empty ones, or nil.
func emptied(x api.PleaCase, list []int, rules []api.PleaRule) api.PleaCase {
	out := cloned(x)
	if len(out.Seen) == 0 {
		out.Seen = list
	}
	if len(out.Rules) == 0 {
		out.Rules = rules
	}
	for i, r := range out.Rules {
		if len(r.If) == 0 {
			out.Rules[i].If = list
		}
	}
	return out
}

// R3: a nil list is an empty one.
func TestNilAndEmpty(t *testing.T) {
	for _, x := range all() {
		nils := asked{c: emptied(x, nil, nil)}
		empties := asked{c: emptied(x, ints(), []api.PleaRule{}), truth: ints(), steps: ints()}
		if !equal(nils.answers(), empties.answers()) {
			t.Fatal(x, nils.answers(), empties.answers())
		}
	}
}

func (q asked) cloned() asked {
	q.c, q.truth, q.steps = cloned(q.c), slices.Clone(q.truth), slices.Clone(q.steps)
	return q
}

func (q asked) same(r asked) bool {
	return slices.Equal(q.c.Seen, r.c.Seen) && slices.Equal(q.truth, r.truth) && slices.Equal(q.steps, r.steps) &&
		slices.EqualFunc(q.c.Rules, r.c.Rules, func(a, b api.PleaRule) bool {
			return a.Then == b.Then && slices.Equal(a.If, b.If)
		})
}

// roomy returns a list with two elements of room behind its end.
func roomy[T any](list []T, x T) []T { return append(slices.Clone(list), x, x)[:len(list)] }

func isRoomy(list []int) bool { return slices.Equal(list[len(list):len(list)+2], ints(77, 77)) }

// R4: no argument is changed, not even behind the end of a list.
func TestArgumentsStay(t *testing.T) {
	c := chance{at: 11}
	for _, x := range all() {
		q := c.valid(x)
		before := q.cloned()
		q.c.Seen, q.truth, q.steps = roomy(q.c.Seen, 77), roomy(q.truth, 77), roomy(q.steps, 77)
		q.c.Rules = roomy(q.c.Rules, rule(77))
		for i, r := range q.c.Rules {
			q.c.Rules[i].If = roomy(r.If, 77)
		}
		q.answers()
		kept := isRoomy(q.c.Seen) && isRoomy(q.truth) && isRoomy(q.steps)
		for _, r := range q.c.Rules {
			kept = kept && isRoomy(r.If)
		}
		for _, r := range q.c.Rules[len(q.c.Rules) : len(q.c.Rules)+2] {
			kept = kept && r.Then == 77 && len(r.If) == 0
		}
		if !kept || !q.same(before) {
			t.Fatal(before, q)
		}
	}
}

// spoil changes all elements of a list, and those behind its end.
func spoil(list []int) {
	list = list[:cap(list)]
	for i := range list {
		list[i] = 99
	}
}

// R4 and R10: a result that is changed changes no other one, and no argument.
func TestResultsAreApart(t *testing.T) {
	c := chance{at: 12}
	for _, x := range all() {
		q := c.valid(x)
		before, first := q.cloned(), q.answers()
		least, _ := plea.Least(q.c)
		facts, _, _ := plea.CheckSteps(q.c, q.steps)
		steps, _ := plea.Steps(q.c, q.fact)
		clash, _ := plea.Clash(q.c)
		needed, _ := plea.Needed(q.c, q.fact)
		wrong, _ := plea.Wrong(q.c)
		for _, list := range [][]int{least, facts, steps, clash, needed, wrong} {
			spoil(list)
		}
		if !q.same(before) || !equal(q.answers(), first) {
			t.Fatal(before, q)
		}
	}
}

// R9 and R10: equal calls return equal results, in whatever order and at once.
func TestAgain(t *testing.T) {
	c := chance{at: 13}
	var list []asked
	var want [][]answer
	for i, x := range all() {
		if i%5 == 0 {
			q := c.valid(x)
			list, want = append(list, q), append(want, q.answers())
		}
	}
	var wait sync.WaitGroup
	for from := range 8 {
		wait.Go(func() {
			for k := range list {
				i := (k*7 + from*13) % len(list)
				if got := list[i].answers(); !equal(got, want[i]) {
					t.Error(list[i], got, want[i])
				}
			}
		})
	}
	wait.Wait()
}
