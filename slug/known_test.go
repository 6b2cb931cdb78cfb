package slug_test

import (
	"math"
	"slices"
	"testing"

	"pennyfall/api"
	"pennyfall/slug"
)

// errorsOf returns the errors of all functions but CheckKnown; the other
// arguments are not valid, either.
func errorsOf(k api.SlugKnown) []api.Errno {
	bad := make([][]int, 7)
	_, all := slug.Cases(k)
	_, result := slug.Result(k, nil, heavy(99))
	_, learned := slug.Learned(k, nil, 2)
	_, _, alike := slug.Alike(k, bad)
	_, told := slug.Told(k, bad, ints(2))
	_, bound := slug.Bound(k)
	_, needed := slug.Needed(k)
	_, next := slug.Next(k)
	_, after := slug.After(k, nil)
	return []api.Errno{
		all, slug.CheckWeighing(k, nil), result, learned, slug.CheckPlan(k, bad), alike, told,
		bound, needed, next, after,
	}
}

// P5.1, and that all functions return its errors before all others.
func TestCheckKnown(t *testing.T) {
	for i, c := range []struct {
		k api.SlugKnown
		e api.Errno
	}{
		{knownK(), api.OK},
		{knownL(), api.OK},
		{knownM(), api.OK},
		{knownN(), api.OK},
		{known(1), api.OK},
		{known(0, 0), api.ErrNone},
		{orNone(known(0, 0)), api.OK},
		{known(0), api.ErrNone},
		{known(make([]int, 12)...), api.ErrNone},
		{orNone(known(make([]int, 12)...)), api.OK},
		{known(slices.Repeat(ints(3), 12)...), api.OK},
		{known(append(make([]int, 11), 2)...), api.OK},
		{known(), api.ErrMany},
		{orNone(known()), api.ErrMany},
		{known(make([]int, 13)...), api.ErrMany},
		{orNone(known(slices.Repeat(ints(3), 13)...)), api.ErrMany},
		{known(make([]int, 100)...), api.ErrMany},
		{known(4), api.ErrRange},
		{known(-1), api.ErrRange},
		{known(3, 3, -1), api.ErrRange},
		{known(3, 4, 3), api.ErrRange},
		{known(3, math.MaxInt), api.ErrRange},
		{known(math.MinInt, 3), api.ErrRange},
		{known(append(make([]int, 11), 5)...), api.ErrRange},
		// the first error before the second one, and this before the last one
		{known(slices.Repeat(ints(-1), 13)...), api.ErrMany},
		{known(0, 0, 4), api.ErrRange},
		{known(-1, 0), api.ErrRange},
		{orNone(known(0, 4)), api.ErrRange},
	} {
		if e := slug.CheckKnown(c.k); e != c.e {
			t.Error(i, e)
		}
		for n, e := range errorsOf(c.k) {
			if c.e != api.OK && e != c.e {
				t.Error(i, n, e)
			}
		}
	}
}

// P5.1: examples of the chapter, and others.
func TestCasesOfSome(t *testing.T) {
	for i, c := range []struct {
		k    api.SlugKnown
		list []api.SlugCase
		e    api.Errno
	}{
		{knownM(), cases(light(0), heavy(0), light(1), heavy(1)), api.OK},
		{known(0, 0), nil, api.ErrNone},
		{orNone(known(0, 0)), cases(none()), api.OK},
		{knownL(), cases(light(0), light(1), light(2)), api.OK},
		{knownN(), cases(light(0), heavy(0), light(1), heavy(1)), api.OK},
		{orNone(known(2, 0, 1, 3)), cases(heavy(0), light(2), light(3), heavy(3), none()), api.OK},
		{known(0, 0, 2), cases(heavy(2)), api.OK},
	} {
		if list, e := slug.Cases(c.k); !slices.Equal(list, c.list) || e != c.e {
			t.Error(i, list, e)
		}
	}
}

// P5.1, by the definition.
func TestCases(t *testing.T) {
	for _, k := range append(small(5), some()...) {
		if list, e := slug.Cases(k); !slices.Equal(list, casesOf(k)) || e != api.OK {
			t.Fatal(k, list, e)
		}
	}
}

// P5.6: examples of the chapter, the numbers at which it changes, and others.
func TestBoundOfSome(t *testing.T) {
	for i, c := range []struct {
		k    api.SlugKnown
		many int
	}{
		{knownK(), 2},
		{knownL(), 1},
		{knownM(), 2},
		{known(1), 0},
		{orNone(known(0)), 0},
		{orNone(known(1)), 1},
		{known(3), 1},
		{known(3, 1), 1},
		{known(1, 1, 1, 1), 2},
		{known(1, 2, 1, 2, 1, 2, 1, 2, 1), 2},
		{orNone(known(1, 2, 1, 2, 1, 2, 1, 2, 1)), 3},
		{known(slices.Repeat(ints(3), 12)...), 3},
		{orNone(known(slices.Repeat(ints(3), 12)...)), 3},
	} {
		if many, e := slug.Bound(c.k); many != c.many || e != api.OK {
			t.Error(i, many, e)
		}
	}
}

// P5.6, by the definition.
func TestBound(t *testing.T) {
	power := ints(1, 3, 9, 27)
	for _, k := range append(small(5), some()...) {
		want := 0
		for power[want] < len(casesOf(k)) {
			want++
		}
		if many, e := slug.Bound(k); many != want || e != api.OK {
			t.Fatal(k, many, e)
		}
	}
}
