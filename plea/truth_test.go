package plea_test

import (
	"math"
	"slices"
	"testing"

	"pennyfall/api"
	"pennyfall/plea"
)

// P9.2: examples of the chapter, and others.
func TestCheckTruthOfSome(t *testing.T) {
	for i, x := range []struct {
		c     api.PleaCase
		truth []int
		e     api.Errno
	}{
		{caseC(), ints(0, 1, 2, 3, 6), api.OK},
		{caseC(), ints(0, 1, 2, 3), api.OK},
		{caseC(), ints(0, 1, 2), api.ErrPlea},
		{caseC(), ints(0, 1, 3), api.ErrPlea},
		{caseC(), ints(0, 1, 2, 3, 4), api.ErrPlea}, // the rule 2 says that they cannot
		{caseC(), ints(0, 1, 2, 3, 5), api.ErrPlea},
		{caseC(), ints(1, 2, 3), api.ErrPlea}, // without a fact that was seen
		{caseC(), nil, api.ErrPlea},
		{caseD(), ints(0, 1, 2, 3, 4), api.ErrPlea},
		{caseC(), ints(1, 0), api.ErrArg},
		{caseC(), ints(0, 1, 1, 2, 3), api.ErrArg},
		{caseC(), ints(0, 1, 2, 3, 7), api.ErrArg},
		{caseC(), ints(-1, 0, 1, 2, 3), api.ErrArg},
		{caseD(), ints(3, 2), api.ErrArg},
		{caseC(), ints(math.MinInt, math.MaxInt), api.ErrArg},
		{caseC(), ints(math.MaxInt, math.MinInt), api.ErrArg},
		{caseC(), make([]int, 5000), api.ErrArg},
		{cased(1, nil), nil, api.OK},
		{cased(1, nil), ints(0), api.OK},
		{cased(2, nil, rule(1)), nil, api.ErrPlea}, // an If that is empty
		{cased(2, nil, rule(1)), ints(1), api.OK},
		{cased(2, nil, rule(-1)), nil, api.ErrPlea},
		{cased(2, nil, rule(-1, 0)), ints(1), api.OK},
		{cased(2, nil, rule(0, 0)), ints(0), api.OK},
		{cased(12, nil), ints(0, 1, 2, 3, 4, 5, 6, 7, 8, 9, 10, 11), api.OK},
	} {
		if e := plea.CheckTruth(x.c, x.truth); e != x.e {
			t.Error(i, e)
		}
	}
}

// P9.2, by the definition: all lists of facts.
func TestCheckTruth(t *testing.T) {
	found := map[api.Errno]int{}
	for _, x := range all() {
		w := tableOf(x)
		for set := range w.breaks {
			want := api.ErrPlea
			if w.breaks[set] == 0 && covers(set, w.seen()) {
				want = api.OK
			}
			found[want]++
			if e := plea.CheckTruth(x, members(set)); e != want {
				t.Fatal(x, members(set), e, want)
			}
		}
	}
	if found[api.OK] < 10000 || found[api.ErrPlea] < 10000 {
		t.Error("too few of a kind:", found)
	}
}

// P9.2: examples of the chapter, and others.
func TestLeastOfSome(t *testing.T) {
	for i, x := range []struct {
		c     api.PleaCase
		least []int
		count int
		e     api.Errno
	}{
		{caseC(), ints(0, 1, 2, 3), 2, api.OK},
		{caseD(), nil, 0, api.ErrPlea},
		{row(), ints(0, 1, 2, 3, 4, 5, 6, 7, 8, 9, 10, 11), 1, api.OK},
		{seeing(row(), nil), nil, 13, api.OK},
		{seeing(row(), ints(7)), ints(7, 8, 9, 10, 11), 8, api.OK},
		{with(row(), rule(-1, 11)), nil, 0, api.ErrPlea},
		{with(seeing(row(), nil), rule(-1, 11)), nil, 1, api.OK},
		{cased(1, nil), nil, 2, api.OK},
		{cased(1, ints(0)), ints(0), 1, api.OK},
		{cased(12, nil), nil, 4096, api.OK},
		{cased(12, ints(3, 11)), ints(3, 11), 1024, api.OK},
		{cased(2, nil, rule(1)), ints(1), 2, api.OK},
		{cased(2, nil, rule(1), rule(0, 1)), ints(0, 1), 1, api.OK},
		{cased(2, nil, rule(-1)), nil, 0, api.ErrPlea},
		{cased(2, nil, rule(-1, 0)), nil, 2, api.OK},
		{cased(2, nil, rule(0, 1), rule(1, 0)), nil, 2, api.OK},
		{cased(2, nil, rule(0, 0)), nil, 4, api.OK},
	} {
		least, e := plea.Least(x.c)
		count, f := plea.Count(x.c)
		if !slices.Equal(least, x.least) || e != x.e || count != x.count || f != api.OK {
			t.Error(i, least, e, count, f)
		}
	}
}

// P9.2, by the definition.
func TestLeast(t *testing.T) {
	found := map[api.Errno]int{}
	for _, x := range all() {
		w := tableOf(x)
		truths := w.truths()
		in, want := len(w.breaks)-1, api.OK // in each truth
		for _, set := range truths {
			in &= set
		}
		if len(truths) == 0 {
			in, want = 0, api.ErrPlea
		}
		found[want]++
		least, e := plea.Least(x)
		if !slices.Equal(least, members(in)) || e != want {
			t.Fatal(x, least, e, members(in), want)
		}
		if count := must(t, plea.Count, x); count != len(truths) {
			t.Fatal(x, count, len(truths))
		}
		if e == api.OK && plea.CheckTruth(x, least) != api.OK {
			t.Fatal(x, least)
		}
	}
	if found[api.OK] < 3000 || found[api.ErrPlea] < 3000 {
		t.Error("too few of a kind:", found)
	}
}

// P9.3: examples of the chapter, and others.
func TestVerdictOfSome(t *testing.T) {
	for i, x := range []struct {
		c       api.PleaCase
		fact    int
		verdict int
		e       api.Errno
	}{
		{caseC(), 0, api.PleaPaid, api.OK},
		{caseC(), 3, api.PleaPaid, api.OK},
		{caseC(), 4, api.PleaRefused, api.OK},
		{caseC(), 5, api.PleaRefused, api.OK},
		{caseC(), 6, api.PleaOpen, api.OK},
		{caseC(), 7, 0, api.ErrArg},
		{caseC(), -1, 0, api.ErrArg},
		{caseD(), 3, 0, api.ErrPlea},
		{caseD(), 0, 0, api.ErrPlea},
		{caseD(), 6, 0, api.ErrPlea},
		{caseD(), 7, 0, api.ErrArg},
		{row(), 11, api.PleaPaid, api.OK},
		{seeing(row(), nil), 11, api.PleaOpen, api.OK},
		{with(seeing(row(), nil), rule(-1, 11)), 0, api.PleaRefused, api.OK},
		{cased(2, nil, rule(1)), 1, api.PleaPaid, api.OK},
		{cased(2, nil, rule(1)), 0, api.PleaOpen, api.OK},
		{cased(2, nil, rule(-1)), 0, 0, api.ErrPlea},
		{cased(3, ints(0), rule(-1, 1, 2)), 1, api.PleaOpen, api.OK},
		{cased(3, ints(0, 2), rule(-1, 1, 2)), 1, api.PleaRefused, api.OK},
	} {
		if verdict, e := plea.Verdict(x.c, x.fact); verdict != x.verdict || e != x.e {
			t.Error(i, verdict, e)
		}
	}
}

// P9.3, by the definition.
func TestVerdict(t *testing.T) {
	found, wrong := [3]int{}, 0
	for _, x := range all() {
		w := tableOf(x)
		for fact := range x.Facts {
			want, f := w.verdict(fact)
			if f == api.OK {
				found[want]++
			} else {
				wrong++
			}
			if verdict, e := plea.Verdict(x, fact); verdict != want || e != f {
				t.Fatal(x, fact, verdict, e, want, f)
			}
		}
	}
	if slices.Min(found[:]) < 1000 || wrong < 1000 {
		t.Error("too few of a kind:", found, wrong)
	}
}

// P9.8: examples of the chapter, and others.
func TestIdleOfSome(t *testing.T) {
	for i, x := range []struct {
		c      api.PleaCase
		rule   int
		isIdle bool
		e      api.Errno
	}{
		{caseC(), 4, true, api.OK},
		{caseC(), 1, false, api.OK},
		{caseC(), 0, false, api.OK},
		{caseC(), 2, false, api.OK},
		{caseC(), 5, false, api.ErrArg},
		{caseC(), -1, false, api.ErrArg},
		{caseC(), math.MinInt, false, api.ErrArg},
		{caseC(), math.MaxInt, false, api.ErrArg},
		{cased(2, nil), 0, false, api.ErrArg},
		{caseD(), 4, true, api.OK}, // what was seen changes nothing, even if it contradicts itself
		{caseD(), 1, false, api.OK},
		{cased(3, ints(0, 1, 2), rule(2, 1), rule(1, 0)), 0, false, api.OK},
		{cased(3, nil, rule(1, 0), rule(1, 0)), 0, true, api.OK},
		{cased(3, nil, rule(1, 0), rule(1, 0)), 1, true, api.OK},
		{cased(3, nil, rule(1, 0), rule(1, 0, 2)), 1, true, api.OK},
		{cased(3, nil, rule(1, 0), rule(1, 0, 2)), 0, false, api.OK},
		{cased(3, nil, rule(1, 0, 1)), 0, true, api.OK},
		{cased(3, nil, rule(-1, 0), rule(-1, 0, 1)), 1, true, api.OK},
		{cased(3, nil, rule(-1, 0), rule(2, 0, 1)), 1, true, api.OK},
		{cased(3, nil, rule(-1, 0), rule(2, 1)), 1, false, api.OK},
		{cased(3, nil, rule(1, 0), rule(-1, 1), rule(-1, 0)), 2, true, api.OK},
		{cased(3, nil, rule(1, 0), rule(-1, 1), rule(-1, 0)), 1, false, api.OK},
		{cased(3, nil, rule(1), rule(-1, 1), rule(2, 0)), 2, true, api.OK}, // without it there is no truth
		{cased(3, nil, rule(-1), rule(-1)), 0, true, api.OK},
		{cased(3, nil, rule(-1)), 0, false, api.OK},
		{cased(3, nil, rule(0)), 0, false, api.OK},
		{cased(3, nil, rule(0), rule(0)), 0, true, api.OK},
	} {
		if isIdle, e := plea.Idle(x.c, x.rule); isIdle != x.isIdle || e != x.e {
			t.Error(i, isIdle, e)
		}
	}
}

// P9.8, by the definition.
func TestIdle(t *testing.T) {
	found := map[bool]int{}
	for _, x := range all() {
		w := tableOf(x)
		for rule := range x.Rules {
			want := w.isIdle(rule)
			found[want]++
			if isIdle, e := plea.Idle(x, rule); isIdle != want || e != api.OK {
				t.Fatal(x, rule, isIdle, e, want)
			}
		}
	}
	if found[true] < 1000 || found[false] < 1000 {
		t.Error("too few of a kind:", found)
	}
}
