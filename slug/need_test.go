package slug_test

import (
	"slices"
	"testing"

	"pennyfall/api"
	"pennyfall/slug"
)

// P5.7: examples of the chapter, and others.
func TestNeededOfSome(t *testing.T) {
	for i, c := range []struct {
		k    api.SlugKnown
		many int
		e    api.Errno
	}{
		{knownK(), 3, api.OK},
		{knownL(), 1, api.OK},
		{knownM(), 0, api.ErrSlug},
		{knownN(), 2, api.OK},
		{known(1), 0, api.OK},
		{known(2, 0, 0), 0, api.OK},
		{orNone(known(0)), 0, api.OK},
		{known(3), 0, api.ErrSlug},
		{orNone(known(1)), 0, api.ErrSlug},
		{orNone(known(3)), 0, api.ErrSlug},
		{known(1, 2), 0, api.ErrSlug},
		{known(1, 1), 1, api.OK},
		{orNone(known(1, 1)), 1, api.OK},
		{known(1, 2, 0), 1, api.OK},
		{known(3, 0), 1, api.OK},
		{known(slices.Repeat(ints(3), 12)...), 3, api.OK},
		{orNone(known(slices.Repeat(ints(3), 12)...)), 3, api.OK},
		{known(slices.Repeat(ints(1), 9)...), 2, api.OK},
		{known(slices.Repeat(ints(2), 10)...), 3, api.OK},
		{orNone(known(slices.Repeat(ints(1), 9)...)), 3, api.OK},
	} {
		if many, e := slug.Needed(c.k); many != c.many || e != c.e {
			t.Error(i, many, e)
		}
		want := c.e
		if want == api.OK && c.many == 0 {
			want = api.ErrNone
		}
		w, e := slug.Next(c.k)
		if e != want || (len(w) > 0) != (want == api.OK) || e == api.OK && slug.CheckWeighing(c.k, w) != api.OK {
			t.Error(i, w, e)
		}
	}
}

// P5.8: examples of the chapter, and others.
func TestAfterOfSome(t *testing.T) {
	for i, c := range []struct {
		k    api.SlugKnown
		w    []int
		many int
		e    api.Errno
	}{
		{knownN(), ints(1, 0, -1), 1, api.OK},
		{knownN(), ints(1, -1, 0), 1, api.OK},
		{knownN(), ints(0, 0, 0), 2, api.OK},
		{knownM(), ints(1, -1), 0, api.ErrSlug},
		{knownM(), ints(0, 0), 0, api.ErrSlug},
		{orNone(knownM()), ints(1, -1), 0, api.ErrSlug}, // if no pan sinks all is known
		{knownL(), ints(1, -1, 0), 0, api.OK},
		{knownL(), ints(0, 0, 0), 1, api.OK},
		{known(1), ints(0), 0, api.OK},
		{known(2, 0), ints(1, -1), 0, api.OK},
		{known(0, 0, 1, 1, 1), ints(1, -1, 0, 0, 0), 1, api.OK},
		{known(0, 0, 1, 1, 1), ints(1, -1, 1, -1, 0), 0, api.OK},
		{knownK(), ints(1, 1, -1, -1), 2, api.OK},
		{knownK(), ints(0, 0, 0, 0), 3, api.OK},
	} {
		if many, e := slug.After(c.k, c.w); many != c.many || e != c.e {
			t.Error(i, many, e)
		}
	}
}

// checkNeeded holds Needed and Next against a table of what is needed (P5.7); it
// returns what is needed, or -1.
func checkNeeded(t *testing.T, table map[kinds]int, k api.SlugKnown) int {
	t.Helper()
	want, ok := table[kindsOf(k)]
	many, e := slug.Needed(k)
	w, e2 := slug.Next(k)
	switch {
	case !ok:
		if many != 0 || e != api.ErrSlug || len(w) > 0 || e2 != api.ErrSlug {
			t.Fatal(k, many, e, w, e2)
		}
		return -1
	case many != want || e != api.OK:
		t.Fatal(k, many, e, want)
	case many == 0:
		if len(w) > 0 || e2 != api.ErrNone {
			t.Fatal(k, w, e2)
		}
	case e2 != api.OK || slug.CheckWeighing(k, w) != api.OK || afterOf(table, k, w) != many-1:
		t.Fatal(k, many, w, e2)
	}
	return many
}

// afterOf returns the greatest number that is needed behind a weighing, or -1.
func afterOf(table map[kinds]int, k api.SlugKnown, w []int) int {
	out := 0
	for result := -1; result <= 1; result++ {
		learned := learnedOf(k, w, result)
		if len(casesOf(learned)) == 0 {
			continue
		}
		many, ok := table[kindsOf(learned)]
		if !ok {
			return -1
		}
		out = max(out, many)
	}
	return out
}

// checkAfter holds After against a table (P5.8), and against what is needed
// before (P5.11).
func checkAfter(t *testing.T, table map[kinds]int, k api.SlugKnown, w []int) {
	t.Helper()
	want := afterOf(table, k, w)
	many, e := slug.After(k, w)
	if want < 0 && (many != 0 || e != api.ErrSlug) || want >= 0 && (many != want || e != api.OK) {
		t.Fatal(k, w, many, e, want)
	}
	if before, ok := table[kindsOf(k)]; want >= 0 && (!ok || many < before-1) {
		t.Fatal(k, w, many, before)
	}
}

// checkPlayed does weighings as Next says in all cases (P5.13).
func checkPlayed(t *testing.T, k api.SlugKnown, many int) {
	t.Helper()
	for _, c := range casesOf(k) {
		left := k
		for range many {
			if len(casesOf(left)) > 1 {
				w := mustNext(t, left)
				left = mustLearn(t, left, w, resultOf(w, c))
			}
		}
		if !slices.Equal(casesOf(left), cases(c)) {
			t.Fatal(k, c, many, left)
		}
	}
}

// P5.7, P5.8 and P5.11, by the definitions, and P5.10 and P5.13: all that can be
// known of up to five coppers, with all weighings.
func TestNeededOfFew(t *testing.T) {
	for coppers := 1; coppers <= 5; coppers++ {
		table := table(coppers)
		for _, k := range small(coppers) {
			if len(k.Coppers) < coppers {
				continue
			}
			if many := checkNeeded(t, table, k); many >= 0 {
				checkPlayed(t, k, many)
			}
			for _, w := range weighings(coppers) {
				checkAfter(t, table, k, w)
			}
		}
	}
}

// The same for more coppers; these come in whatever order, with weighings of chance.
func TestNeededOfMore(t *testing.T) {
	c := chance{at: 5}
	for coppers := 6; coppers <= api.MaxSlugCoppers; coppers++ {
		table := table(coppers)
		eachKinds(coppers, func(s kinds) {
			k := api.SlugKnown{Coppers: c.mixed(s.known().Coppers), None: s.none}
			many := checkNeeded(t, table, k)
			if bound, e := slug.Bound(k); many < bound || e != api.OK {
				t.Fatal(k, many, bound, e)
			}
			checkPlayed(t, k, many)
			for range 10 {
				checkAfter(t, table, k, c.weighing(coppers))
			}
		})
	}
}
