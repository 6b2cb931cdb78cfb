package plea_test

import (
	"slices"
	"testing"

	"pennyfall/api"
	"pennyfall/plea"
)

// P9.6: examples of the chapter, and others.
func TestNeededOfSome(t *testing.T) {
	for i, x := range []struct {
		c      api.PleaCase
		fact   int
		needed []int
		e      api.Errno
	}{
		{caseC(), 3, ints(0, 1), api.OK},
		{caseC(), 0, ints(0), api.OK},
		{caseC(), 4, nil, api.ErrNone},
		{caseC(), 6, nil, api.ErrNone},
		{caseC(), 7, nil, api.ErrArg},
		{caseC(), -1, nil, api.ErrArg},
		{caseD(), 3, ints(0, 1), api.OK},
		{caseD(), 4, ints(4), api.OK},
		{caseD(), 5, nil, api.ErrNone},
		{row(), 11, ints(0), api.OK},
		{seeing(row(), ints(2, 5, 9)), 11, ints(2), api.OK}, // the first one, not the nearest one
		{seeing(row(), ints(2, 5, 9)), 9, ints(2), api.OK},  // not the fact itself
		{seeing(row(), ints(2, 5, 9)), 1, nil, api.ErrNone},
		{cased(2, ints(0), rule(1)), 1, nil, api.OK}, // from nothing
		{cased(2, ints(0, 1), rule(1)), 1, nil, api.OK},
		{cased(6, ints(0, 1, 2, 3, 4), rule(5, 0, 1), rule(5, 4)), 5, ints(4), api.OK}, // fewer before earlier ones
		{cased(6, ints(0, 1, 2, 3, 4), rule(5, 1, 2), rule(5, 0, 4)), 5, ints(0, 4), api.OK},
		{cased(6, ints(0, 1, 2, 3, 4), rule(5, 3, 4), rule(5, 1, 4)), 5, ints(1, 4), api.OK},
		{cased(6, ints(1, 2, 3, 4), rule(5, 0, 1), rule(0, 4), rule(5, 2, 3)), 5, ints(1, 4), api.OK},
		{cased(2, ints(0), rule(-1), rule(1, 0)), 1, ints(0), api.OK},
		{cased(12, members(1<<11-1), rule(11, members(1<<11-1)...)), 11, members(1<<11 - 1), api.OK},
	} {
		needed, e := plea.Needed(x.c, x.fact)
		if !slices.Equal(needed, x.needed) || e != x.e {
			t.Error(i, needed, e)
		}
	}
}

// P9.6, by the definition.
func TestNeeded(t *testing.T) {
	found, none := [13]int{}, 0
	for _, x := range all() {
		w := tableOf(x)
		for fact := range x.Facts {
			want, f := w.fewest(func(set int) bool { return w.leads(set, fact) })
			if f == api.OK {
				found[len(want)]++
			} else {
				none++
			}
			needed, e := plea.Needed(x, fact)
			if !slices.Equal(needed, want) || e != f {
				t.Fatal(x, fact, needed, e, want, f)
			}
		}
	}
	if slices.Min(found[:6]) < 20 || none < 1000 {
		t.Error("too few of a kind:", found, none)
	}
}

// P9.7: examples of the chapter, and others.
func TestWrongOfSome(t *testing.T) {
	twelve := cased(12, members(1<<12-1)) // none of the facts can be true
	for fact := range 12 {
		twelve = with(twelve, rule(-1, fact))
	}
	for i, x := range []struct {
		c     api.PleaCase
		wrong []int
		e     api.Errno
	}{
		{caseC(), nil, api.OK},
		{caseD(), ints(0), api.OK},
		{seeing(caseC(), ints(0, 1, 4, 5)), ints(0), api.OK},
		{seeing(caseC(), ints(0, 1, 3, 4)), ints(4), api.OK},
		{seeing(caseC(), ints(0, 1, 3, 4, 5)), ints(0, 3), api.OK},
		{seeing(caseC(), ints(0, 1, 2, 3, 4, 5)), ints(4, 5), api.OK},
		{seeing(caseC(), ints(3, 4, 5)), ints(3), api.OK},
		{row(), nil, api.OK},
		{with(row(), rule(-1, 11)), ints(0), api.OK},
		{with(seeing(row(), ints(2, 5, 9)), rule(-1, 6)), ints(2, 5), api.OK},
		{cased(1, nil), nil, api.OK},
		{cased(1, nil, rule(-1)), nil, api.ErrNone},
		{cased(1, ints(0), rule(-1)), nil, api.ErrNone},
		{cased(2, ints(0), rule(1), rule(-1, 1)), nil, api.ErrNone},
		{cased(2, nil, rule(-1, 0)), nil, api.OK},
		{cased(5, ints(0, 1, 2, 3, 4), rule(-1, 0, 1), rule(-1, 2, 3)), ints(0, 2), api.OK},
		{cased(5, ints(0, 1, 2, 3, 4), rule(-1, 0, 4), rule(-1, 1, 4), rule(-1, 2, 4)), ints(4), api.OK},
		{cased(5, ints(0, 1, 2, 3, 4), rule(-1, 0, 4), rule(-1, 1, 3), rule(-1, 3, 4)), ints(0, 3), api.OK},
		{twelve, members(1<<12 - 1), api.OK},
	} {
		wrong, e := plea.Wrong(x.c)
		if !slices.Equal(wrong, x.wrong) || e != x.e {
			t.Error(i, wrong, e)
		}
	}
}

// P9.7, by the definition.
func TestWrong(t *testing.T) {
	found, none := [13]int{}, 0
	for _, x := range all() {
		w := tableOf(x)
		want, f := w.fewest(func(set int) bool { return w.hasAny[w.seen()&^set] })
		if f == api.OK {
			found[len(want)]++
		} else {
			none++
		}
		wrong, e := plea.Wrong(x)
		if !slices.Equal(wrong, want) || e != f {
			t.Fatal(x, wrong, e, want, f)
		}
	}
	if slices.Min(found[:5]) < 20 || none < 1000 {
		t.Error("too few of a kind:", found, none)
	}
}
