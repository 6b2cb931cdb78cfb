package plea_test

import (
	"math"
	"slices"
	"testing"

	"pennyfall/api"
	"pennyfall/plea"
)

// errorsOf returns the errors of all functions but CheckCase; the other arguments
// are not valid, either.
func errorsOf(c api.PleaCase) []api.Errno {
	_, least := plea.Least(c)
	_, count := plea.Count(c)
	_, verdict := plea.Verdict(c, -1)
	_, _, checked := plea.CheckSteps(c, ints(-1))
	_, steps := plea.Steps(c, -1)
	_, clash := plea.Clash(c)
	_, needed := plea.Needed(c, -1)
	_, wrong := plea.Wrong(c)
	_, idle := plea.Idle(c, -1)
	return []api.Errno{plea.CheckTruth(c, ints(-1)), least, count, verdict, checked, steps, clash, needed, wrong, idle}
}

// P9.1, and that all functions return its errors before all others.
func TestCheckCase(t *testing.T) {
	same := func(many int, r api.PleaRule) []api.PleaRule { return slices.Repeat([]api.PleaRule{r}, many) }
	for i, x := range []struct {
		c api.PleaCase
		e api.Errno
	}{
		{caseC(), api.OK},
		{caseD(), api.OK},
		{cased(1, nil), api.OK},
		{cased(12, nil), api.OK},
		{cased(12, ints(0, 1, 2, 3, 4, 5, 6, 7, 8, 9, 10, 11)), api.OK},
		{cased(12, ints(0, 11), rule(11, 0, 11), rule(0, 11)), api.OK},
		{cased(3, nil, rule(-1)), api.OK},
		{cased(3, nil, rule(2)), api.OK},
		{cased(3, nil, rule(2, 0, 1, 2)), api.OK},
		{cased(3, nil, same(14, rule(2, 0, 1))...), api.OK},
		// too few or too many facts, or too many rules
		{cased(0, nil), api.ErrMany},
		{cased(13, nil), api.ErrMany},
		{cased(-1, nil), api.ErrMany},
		{cased(math.MinInt, nil), api.ErrMany},
		{cased(math.MaxInt, nil), api.ErrMany},
		{cased(3, nil, same(15, rule(2, 0, 1))...), api.ErrMany},
		{cased(3, nil, same(5000, rule(2, 0, 1))...), api.ErrMany},
		// Seen
		{cased(3, ints(3)), api.ErrRange},
		{cased(3, ints(-1)), api.ErrRange},
		{cased(3, ints(-1, 0)), api.ErrRange},
		{cased(3, ints(1, 1)), api.ErrRange},
		{cased(3, ints(1, 0)), api.ErrRange},
		{cased(3, ints(0, 2, 1)), api.ErrRange},
		{cased(3, ints(0, 1, 2, 3)), api.ErrRange},
		{cased(12, ints(12)), api.ErrRange},
		{cased(3, make([]int, 5000)), api.ErrRange},
		{cased(3, ints(math.MinInt, math.MaxInt)), api.ErrRange},
		{cased(3, ints(math.MaxInt, math.MinInt)), api.ErrRange},
		// an If
		{cased(3, nil, rule(2, 3)), api.ErrRange},
		{cased(3, nil, rule(2, -1)), api.ErrRange},
		{cased(3, nil, rule(2, 1, 1)), api.ErrRange},
		{cased(3, nil, rule(2, 1, 0)), api.ErrRange},
		{cased(3, nil, rule(2, 0, 2, 1)), api.ErrRange},
		{cased(3, nil, rule(2, 0, 1), rule(-1, 0, 3)), api.ErrRange},
		{cased(3, nil, rule(2, make([]int, 5000)...)), api.ErrRange},
		{cased(3, nil, rule(2, math.MinInt, math.MaxInt)), api.ErrRange},
		// a Then
		{cased(3, nil, rule(3, 0)), api.ErrRange},
		{cased(3, nil, rule(-2, 0)), api.ErrRange},
		{cased(3, nil, rule(2, 0), rule(3)), api.ErrRange},
		{cased(12, nil, rule(12)), api.ErrRange},
		{cased(3, nil, rule(math.MinInt, 0)), api.ErrRange},
		{cased(3, nil, rule(math.MaxInt, 0)), api.ErrRange},
		// the first error before the second one
		{cased(0, ints(0)), api.ErrMany},
		{cased(13, ints(-1)), api.ErrMany},
		{cased(-1, nil, rule(-1)), api.ErrMany},
		{cased(3, ints(3), same(15, rule(2, 0, 1))...), api.ErrMany},
		{cased(3, nil, same(15, rule(3, 1, 0))...), api.ErrMany},
	} {
		if e := plea.CheckCase(x.c); e != x.e {
			t.Error(i, e)
		}
		for n, e := range errorsOf(x.c) {
			if x.e != api.OK && e != x.e {
				t.Error(i, n, e)
			}
		}
	}
}

// All functions with a fact return ErrArg if it is none, before all other errors but
// those of CheckCase.
func TestNoFact(t *testing.T) {
	for _, c := range great() {
		for _, fact := range ints(-1, c.Facts, c.Facts+1, 12, 13, math.MinInt, math.MaxInt) {
			verdict, e := plea.Verdict(c, fact)
			steps, f := plea.Steps(c, fact)
			needed, g := plea.Needed(c, fact)
			if e != api.ErrArg || f != api.ErrArg || g != api.ErrArg || verdict != 0 || len(steps)+len(needed) > 0 {
				t.Fatal(c, fact, verdict, e, steps, f, needed, g)
			}
		}
	}
}
