package ring_test

import (
	"math"
	"slices"
	"testing"

	"pennyfall/api"
	"pennyfall/ring"
)

// errorsOf returns the errors of all functions but CheckBook; the other arguments
// are not valid, either.
func errorsOf(b api.RingBook) []api.Errno {
	_, checked := ring.CheckRings(b, make([]int, 9))
	_, fewest := ring.Fewest(b)
	_, first := ring.Rings(b)
	_, count := ring.Count(b, -1)
	_, group := ring.Group(b)
	_, circle := ring.Circle(b)
	_, _, day := ring.Day(b)
	_, kind := ring.Kind(b, -1, -1)
	return []api.Errno{
		ring.Pair(b, -1, -1), checked, fewest, first, count, ring.CheckGroup(b, nil), group,
		ring.CheckCircle(b, ints(-1)), circle, day, kind,
	}
}

// P8.1, and that all functions return its errors before all others.
func TestCheckBook(t *testing.T) {
	twelve := quarrels(0, 1, 0, 2, 0, 3, 0, 4, 0, 5, 0, 6, 0, 7, 1, 2, 1, 3, 1, 4, 1, 5, 6, 7)
	more := append(slices.Clone(twelve[:11]), quarrels(2, 3, 6, 7)...)
	for i, c := range []struct {
		b api.RingBook
		e api.Errno
	}{
		{bookB(), api.OK},
		{bookC(), api.OK},
		{book(keys(key(0, 0))), api.OK},
		{book(keys(key(1000, 1000))), api.OK},
		{book(keys(key(0, 1000))), api.OK},
		{book(together(8)), api.OK},
		{book(together(2), 0, 1), api.OK},
		{api.RingBook{Keys: apart(8), Quarrels: twelve}, api.OK},
		// too few or too many keys, or too many quarrels
		{book(nil), api.ErrMany},
		{book(together(9)), api.ErrMany},
		{book(together(5000)), api.ErrMany},
		{api.RingBook{Keys: apart(8), Quarrels: more}, api.ErrMany},
		{api.RingBook{Keys: apart(8), Quarrels: make([][2]int, 5000)}, api.ErrMany},
		// days
		{book(keys(key(-1, 0))), api.ErrRange},
		{book(keys(key(0, 1001))), api.ErrRange},
		{book(keys(key(1001, 1001))), api.ErrRange},
		{book(keys(key(-1, -1))), api.ErrRange},
		{book(keys(key(1, 0))), api.ErrRange},
		{book(keys(key(1000, 999))), api.ErrRange},
		{book(keys(key(1, 2), key(3, 4), key(6, 5))), api.ErrRange},
		{book(keys(key(math.MinInt64, 0))), api.ErrRange},
		{book(keys(key(0, math.MaxInt64))), api.ErrRange},
		{book(keys(key(math.MaxInt64, math.MinInt64))), api.ErrRange},
		// quarrels
		{book(apart(3), 0, 3), api.ErrArg},
		{book(apart(3), -1, 0), api.ErrArg},
		{book(apart(3), -2, -1), api.ErrArg},
		{book(apart(3), 3, 4), api.ErrArg},
		{book(apart(3), 1, 1), api.ErrArg},
		{book(apart(3), 0, 0), api.ErrArg},
		{book(apart(3), 1, 0), api.ErrArg},
		{book(apart(3), 0, 1, 0, 1), api.ErrArg},
		{book(apart(3), 0, 2, 0, 1), api.ErrArg},
		{book(apart(3), 1, 2, 0, 2), api.ErrArg},
		{book(apart(3), 0, 1, 1, 2, 0, 2), api.ErrArg},
		{book(apart(1), 0, 1), api.ErrArg},
		{book(apart(3), math.MinInt, math.MaxInt), api.ErrArg},
		// the first error before the second one, and this before the last one
		{book(keys(), 0, 0), api.ErrMany},
		{api.RingBook{Keys: keys(key(-1, 0)), Quarrels: more}, api.ErrMany},
		{book(slices.Repeat(keys(key(-1, 0)), 9)), api.ErrMany},
		{book(keys(key(1, 2), key(5, 4)), 1, 0), api.ErrRange},
	} {
		if e := ring.CheckBook(c.b); e != c.e {
			t.Error(i, e)
		}
		for n, e := range errorsOf(c.b) {
			if c.e != api.OK && e != c.e {
				t.Error(i, n, e)
			}
		}
	}
}

// P8.1: examples of the chapter, and others.
func TestPairOfSome(t *testing.T) {
	for i, c := range []struct {
		b        api.RingBook
		one, two int
		e        api.Errno
	}{
		{bookB(), 0, 2, api.ErrRing},
		{bookB(), 1, 2, api.ErrRing}, // on the last day of one, the first of the other
		{bookB(), 2, 3, api.OK},
		{bookB(), 3, 1, api.ErrRing},
		{bookB(), 2, 0, api.ErrRing},
		{book(keys(key(0, 1000), key(1000, 1000))), 0, 1, api.ErrRing},
		{book(keys(key(0, 999), key(1000, 1000))), 0, 1, api.OK},
		{book(keys(key(0, 9), key(3, 4))), 1, 0, api.ErrRing},
		{bookB(), 1, 1, api.ErrArg},
		{bookB(), 0, 4, api.ErrArg},
		{bookB(), 4, 0, api.ErrArg},
		{bookB(), 4, 4, api.ErrArg},
		{bookB(), -1, 0, api.ErrArg},
		{bookB(), 0, -1, api.ErrArg},
		{bookB(), math.MinInt, math.MaxInt, api.ErrArg},
	} {
		if e := ring.Pair(c.b, c.one, c.two); e != c.e {
			t.Error(i, e)
		}
	}
}

// P8.1, by the definition.
func TestPair(t *testing.T) {
	for _, b := range all() {
		g := graphOf(b)
		for one := range b.Keys {
			for two := range b.Keys {
				want := api.OK
				switch {
				case one == two:
					want = api.ErrArg
				case g.clash(one, two):
					want = api.ErrRing
				}
				if e := ring.Pair(b, one, two); e != want {
					t.Fatal(b, one, two, e, want)
				}
			}
		}
	}
}

// P8.7: examples of the chapter, and others.
func TestDayOfSome(t *testing.T) {
	for i, c := range []struct {
		b    api.RingBook
		day  int64
		many int
	}{
		{bookB(), 3, 3},
		{bookC(), 0, 1},
		{book(keys(key(1000, 1000))), 1000, 1},
		{book(keys(key(0, 1000), key(1000, 1000))), 1000, 2},
		{book(keys(key(7, 9), key(2, 3))), 2, 1},
		{book(keys(key(7, 9), key(2, 3), key(8, 8))), 8, 2},
		{book(keys(key(7, 9), key(8, 12), key(2, 4), key(1, 2))), 2, 2},
		{book(keys(key(0, 3), key(4, 6), key(3, 4))), 3, 2},
		{book(together(8)), 4, 8},
	} {
		if day, many, e := ring.Day(c.b); day != c.day || many != c.many || e != api.OK {
			t.Error(i, day, many, e)
		}
	}
}

// P8.7, by the definition.
func TestDay(t *testing.T) {
	for _, b := range all() {
		day, many, e := ring.Day(b)
		if wantDay, want := fullest(b); day != wantDay || many != want || e != api.OK {
			t.Fatal(b, day, many, e, wantDay, want)
		}
	}
}
