package plea_test

import (
	"math"
	"slices"
	"testing"

	"pennyfall/api"
	"pennyfall/plea"
)

// P9.4: examples of the chapter, and others.
func TestCheckStepsOfSome(t *testing.T) {
	for i, x := range []struct {
		c       api.PleaCase
		steps   []int
		facts   []int
		isClash bool
		e       api.Errno
	}{
		{caseC(), nil, ints(0, 1), false, api.OK},
		{caseC(), ints(0, 1), ints(0, 1, 2, 3), false, api.OK},
		{caseC(), ints(4), ints(0, 1, 3), false, api.OK},
		{caseC(), ints(4, 0, 1), ints(0, 1, 2, 3), false, api.OK}, // one that leads to nothing new
		{caseC(), ints(1, 0), nil, false, api.ErrRule},
		{caseC(), ints(3), nil, false, api.ErrRule},
		{caseC(), ints(4, 2), nil, false, api.ErrRule},
		{caseC(), ints(0, 0), nil, false, api.ErrHave},
		{caseC(), ints(0, 1, 4, 1), nil, false, api.ErrHave},
		{caseC(), ints(5), nil, false, api.ErrRange},
		{caseC(), ints(-1), nil, false, api.ErrRange},
		{caseC(), ints(math.MinInt, math.MaxInt), nil, false, api.ErrRange},
		{caseC(), make([]int, 5000), nil, false, api.ErrHave},
		{caseD(), nil, ints(0, 1, 4), false, api.OK}, // no rule of these has the Then -1
		{caseD(), ints(4), ints(0, 1, 3, 4), false, api.OK},
		{caseD(), ints(4, 2), ints(0, 1, 3, 4), true, api.OK},
		{caseD(), ints(0, 4, 1, 2), ints(0, 1, 2, 3, 4), true, api.OK},
		{caseD(), ints(4, 2, 0), nil, false, api.ErrRule},
		{caseD(), ints(2, 4), nil, false, api.ErrRule},
		{cased(2, nil), nil, nil, false, api.OK},
		{cased(2, nil), ints(0), nil, false, api.ErrRange},
		{cased(2, nil, rule(1)), ints(0), ints(1), false, api.OK},
		{cased(2, nil, rule(-1)), ints(0), nil, true, api.OK},
		{cased(2, nil, rule(-1), rule(-1)), ints(0, 1), nil, false, api.ErrRule},
		{cased(2, nil, rule(0, 0)), ints(0), nil, false, api.ErrRule}, // its own Then is none of a step before it
		{cased(2, ints(0), rule(0, 0)), ints(0), ints(0), false, api.OK},
		{cased(2, ints(0), rule(0, 0), rule(0)), ints(1, 0), ints(0), false, api.OK},
		{cased(2, nil, rule(1, 0), rule(0, 1)), ints(0, 1), nil, false, api.ErrRule},
		{row(), ints(10, 9, 8, 7, 6, 5, 4, 3, 2, 1, 0), ints(0, 1, 2, 3, 4, 5, 6, 7, 8, 9, 10, 11), false, api.OK},
		// the first error before the others
		{caseC(), ints(0, 0, 5), nil, false, api.ErrRange},
		{caseC(), ints(1, 0, 0), nil, false, api.ErrHave},
		{caseD(), ints(4, 2, 0, 0), nil, false, api.ErrHave},
	} {
		facts, isClash, e := plea.CheckSteps(x.c, x.steps)
		if !slices.Equal(facts, x.facts) || isClash != x.isClash || e != x.e {
			t.Error(i, facts, isClash, e)
		}
	}
}

// taken returns steps of chance that hold, and perhaps one more.
func (c *chance) taken(x api.PleaCase) []int {
	var out []int
	for _, at := range append(c.order(len(x.Rules)), c.order(len(x.Rules))...) {
		if longer := append(slices.Clone(out), at); !slices.Contains(out, at) && c.below(5) > 0 {
			if _, _, hold := follow(x, longer); hold {
				out = longer
			}
		}
	}
	if len(x.Rules) > 0 && c.below(4) == 0 {
		at := c.below(len(x.Rules))
		if !slices.Contains(out, at) {
			out = append(out, at)
		}
	}
	return out
}

// P9.4, by the definition: all lists of few rules, and some of more.
func TestCheckSteps(t *testing.T) {
	c, found := chance{at: 3}, map[api.Errno]int{}
	few := [][][]int{orders(0), orders(1), orders(2), orders(3)}
	for _, x := range all() {
		var tried [][]int
		if len(x.Rules) <= 3 {
			tried = few[len(x.Rules)]
		}
		for range 5 {
			tried = append(tried, c.taken(x), c.order(len(x.Rules))[:c.below(len(x.Rules)+1)])
		}
		for _, steps := range tried {
			set, clash, hold := follow(x, steps)
			want := api.OK
			if !hold {
				want = api.ErrRule
			}
			found[want]++
			facts, isClash, e := plea.CheckSteps(x, steps)
			if !slices.Equal(facts, members(set)) || isClash != clash || e != want {
				t.Fatal(x, steps, facts, isClash, e, members(set), clash, want)
			}
		}
	}
	if found[api.OK] < 10000 || found[api.ErrRule] < 10000 {
		t.Error("too few of a kind:", found)
	}
}

// areLeading tells whether steps hold, and lead to a fact and to no contradiction,
// or, if it is -1, to one.
func areLeading(c api.PleaCase, steps []int, fact int) bool {
	set, isClash, hold := follow(c, steps)
	if fact < 0 {
		return hold && isClash
	}
	return hold && !isClash && set>>fact&1 == 1
}

// areNeeded tells whether none of some steps can be left out, not even with others.
func areNeeded(c api.PleaCase, steps []int, fact int) bool {
	for set := range 1<<len(steps) - 1 {
		var left []int
		for _, at := range members(set) {
			left = append(left, steps[at])
		}
		if areLeading(c, left, fact) {
			return false
		}
	}
	return true
}

// isOnce tells whether no number is twice in a list.
func isOnce(list []int) bool {
	return len(slices.Compact(slices.Sorted(slices.Values(list)))) == len(list)
}

// P9.5: examples of the chapter, and others.
func TestStepsOfSome(t *testing.T) {
	for i, x := range []struct {
		c     api.PleaCase
		fact  int
		steps [][]int // one of these
		e     api.Errno
	}{
		{caseC(), 2, [][]int{{0}}, api.OK},
		{caseC(), 3, [][]int{{0, 1}, {4}}, api.OK},
		{caseC(), 1, [][]int{nil}, api.OK},
		{caseC(), 4, [][]int{nil}, api.ErrNone},
		{caseC(), 6, [][]int{nil}, api.ErrNone},
		{caseC(), 7, [][]int{nil}, api.ErrArg},
		{caseC(), -1, [][]int{nil}, api.ErrArg},
		{caseD(), 4, [][]int{nil}, api.OK}, // the case contradicts itself, but these steps do not
		{caseD(), 3, [][]int{{0, 1}, {4}}, api.OK},
		{caseD(), 6, [][]int{nil}, api.ErrNone},
		{row(), 0, [][]int{nil}, api.OK},
		{row(), 1, [][]int{{10}}, api.OK},
		{row(), 11, [][]int{{10, 9, 8, 7, 6, 5, 4, 3, 2, 1, 0}}, api.OK},
		{seeing(row(), nil), 11, [][]int{nil}, api.ErrNone},
		{seeing(row(), ints(3, 8)), 11, [][]int{{2, 1, 0}}, api.OK},
		{cased(2, nil, rule(1)), 1, [][]int{{0}}, api.OK},
		{cased(2, ints(1), rule(1)), 1, [][]int{nil}, api.OK},
		{cased(2, nil, rule(-1), rule(1)), 1, [][]int{{1}}, api.OK},
		{cased(2, nil, rule(0, 0)), 0, [][]int{nil}, api.ErrNone},
		{cased(2, nil, rule(0, 1), rule(1, 0)), 0, [][]int{nil}, api.ErrNone},
		{cased(4, ints(0), rule(1, 0), rule(2, 0), rule(3, 1, 2)), 3, [][]int{{0, 1, 2}, {1, 0, 2}}, api.OK},
		{cased(4, ints(0), rule(1, 0), rule(2, 1), rule(3, 1, 2)), 3, [][]int{{0, 1, 2}}, api.OK},
	} {
		steps, e := plea.Steps(x.c, x.fact)
		isOne := slices.ContainsFunc(x.steps, func(one []int) bool { return slices.Equal(steps, one) })
		if !isOne || e != x.e {
			t.Error(i, steps, e)
		}
	}
}

// P9.5, by the definition: that no steps lead to a fact is tried with all lists of
// few rules, and told by the sets of facts that break no rule for more.
func TestSteps(t *testing.T) {
	few := [][][]int{orders(0), orders(1), orders(2), orders(3)}
	found, none := [12]int{}, 0
	for _, x := range all() {
		w := tableOf(x)
		for fact := range x.Facts {
			leads := w.leads(w.seen(), fact)
			if len(x.Rules) <= 3 {
				leads = slices.ContainsFunc(few[len(x.Rules)], func(steps []int) bool { return areLeading(x, steps, fact) })
			}
			steps, e := plea.Steps(x, fact)
			if !leads {
				none++
				if e != api.ErrNone || len(steps) > 0 {
					t.Fatal(x, fact, steps, e)
				}
				continue
			}
			found[len(steps)]++
			if e != api.OK || !isOnce(steps) || !areLeading(x, steps, fact) || !areNeeded(x, steps, fact) {
				t.Fatal(x, fact, steps, e)
			}
			if _, isClash, e := plea.CheckSteps(x, steps); isClash || e != api.OK {
				t.Fatal(x, fact, steps, e)
			}
		}
	}
	if slices.Min(found[:10]) < 10 || none < 1000 {
		t.Error("too few of a kind:", found, none)
	}
}

// P9.5: examples of the chapter, and others.
func TestClashOfSome(t *testing.T) {
	for i, x := range []struct {
		c     api.PleaCase
		steps [][]int // one of these
		e     api.Errno
	}{
		{caseC(), [][]int{nil}, api.ErrNone},
		{caseD(), [][]int{{0, 1, 2}, {4, 2}}, api.OK},
		{seeing(caseC(), ints(3, 5)), [][]int{{3, 2}}, api.OK},
		{seeing(caseC(), ints(3, 4)), [][]int{{2}}, api.OK},
		{row(), [][]int{nil}, api.ErrNone},
		{with(row(), rule(-1, 11)), [][]int{{10, 9, 8, 7, 6, 5, 4, 3, 2, 1, 0, 11}}, api.OK},
		{with(row(), rule(-1, 3)), [][]int{{10, 9, 8, 11}}, api.OK},
		{with(with(row(), rule(-1, 0)), rule(-1, 1)), [][]int{{11}, {10, 12}}, api.OK},
		{cased(1, nil), [][]int{nil}, api.ErrNone},
		{cased(1, nil, rule(-1)), [][]int{{0}}, api.OK},
		{cased(2, nil, rule(-1, 0)), [][]int{nil}, api.ErrNone},
		{cased(2, ints(0), rule(-1, 0)), [][]int{{0}}, api.OK},
		{cased(2, ints(0, 1), rule(1, 0), rule(-1, 1)), [][]int{{1}}, api.OK}, // what was seen needs no step
	} {
		steps, e := plea.Clash(x.c)
		isOne := slices.ContainsFunc(x.steps, func(one []int) bool { return slices.Equal(steps, one) })
		if !isOne || e != x.e {
			t.Error(i, steps, e)
		}
	}
}

// P9.5, by the definition.
func TestClash(t *testing.T) {
	found, none := [13]int{}, 0
	for _, x := range all() {
		steps, e := plea.Clash(x)
		if !tableOf(x).contradicts() {
			none++
			if e != api.ErrNone || len(steps) > 0 {
				t.Fatal(x, steps, e)
			}
			continue
		}
		found[len(steps)]++
		if e != api.OK || !isOnce(steps) || !areLeading(x, steps, -1) || !areNeeded(x, steps, -1) {
			t.Fatal(x, steps, e)
		}
		if _, isClash, e := plea.CheckSteps(x, steps); !isClash || e != api.OK {
			t.Fatal(x, steps, e)
		}
	}
	if slices.Min(found[1:9]) < 5 || none < 1000 {
		t.Error("too few of a kind:", found, none)
	}
}
