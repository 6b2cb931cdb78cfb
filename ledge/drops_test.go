package ledge_test

import (
	"math"
	"slices"
	"testing"

	"pennyfall/api"
	"pennyfall/ledge"
)

// errorsOf returns the errors of all functions with drops but CheckDrops; the
// other arguments are not valid, either.
func errorsOf(places int, drops []int) []api.Errno {
	_, _, lie := ledge.Lie(places, drops)
	_, _, full := ledge.Full(places, drops)
	_, check := ledge.CheckOver(places, drops, -1)
	_, over := ledge.Over(places, drops)
	row := ledge.CheckRow(places, drops)
	_, may := ledge.May(places, drops)
	_, _, round := ledge.Round(places, drops)
	return []api.Errno{lie, full, check, over, row, may, round}
}

// P4.1, and that all functions with drops return its errors before all others.
func TestCheckDrops(t *testing.T) {
	for i, c := range []struct {
		places int
		drops  []int
		e      api.Errno
	}{
		{5, dropsD(), api.OK},
		{5, dropsE(), api.OK},
		{1, nil, api.OK},
		{8, nil, api.OK},
		{1, make([]int, 12), api.OK},
		{8, slices.Repeat(ints(7), 12), api.OK},
		{0, nil, api.ErrMany},
		{9, nil, api.ErrMany},
		{-1, nil, api.ErrMany},
		{math.MaxInt, nil, api.ErrMany},
		{math.MinInt, nil, api.ErrMany},
		{5, make([]int, 13), api.ErrMany},
		{1, make([]int, 13), api.ErrMany},
		{8, make([]int, 100), api.ErrMany},
		{5, ints(5), api.ErrRange},
		{5, ints(-1), api.ErrRange},
		{8, ints(8), api.ErrRange},
		{1, ints(0, 0, 1), api.ErrRange},
		{5, ints(0, math.MaxInt), api.ErrRange},
		{5, ints(math.MinInt, 0), api.ErrRange},
		{5, append(make([]int, 11), 5), api.ErrRange},
		// the numbers of places and of drops before the drops
		{0, ints(0), api.ErrMany},
		{9, ints(9), api.ErrMany},
		{-1, ints(-1), api.ErrMany},
		{5, slices.Repeat(ints(5), 13), api.ErrMany},
		{2, append(make([]int, 12), -1), api.ErrMany},
	} {
		if e := ledge.CheckDrops(c.places, c.drops); e != c.e {
			t.Error(i, e)
		}
		for k, e := range errorsOf(c.places, c.drops) {
			if c.e != api.OK && e != c.e {
				t.Error(i, k, e)
			}
		}
	}
}

// P4.2: examples of the chapter, and others.
func TestLieOfSome(t *testing.T) {
	for i, c := range []struct {
		test
		lies []int
		slid int
		full []int
		fell int
	}{
		{test{5, dropsD()}, ints(2, 0, 3, 1), 1, ints(0, 1, 2, 3), 0},
		{test{5, dropsE()}, ints(3, 4, -1, -1), 3, ints(3, 4), 2},
		{test{5, nil}, nil, 0, nil, 0},
		{test{1, ints(0)}, ints(0), 0, ints(0), 0},
		{test{1, make([]int, 12)}, append(ints(0), slices.Repeat(ints(-1), 11)...), 11, ints(0), 11},
		{test{8, make([]int, 8)}, ints(0, 1, 2, 3, 4, 5, 6, 7), 28, ints(0, 1, 2, 3, 4, 5, 6, 7), 0},
		{test{8, make([]int, 9)}, ints(0, 1, 2, 3, 4, 5, 6, 7, -1), 36, ints(0, 1, 2, 3, 4, 5, 6, 7), 1},
		// a copper slides over several places, and another one lies before it
		{test{5, ints(1, 2, 1, 0)}, ints(1, 2, 3, 0), 2, ints(0, 1, 2, 3), 0},
		// after one has fallen another one may still lie
		{test{3, ints(2, 2, 0)}, ints(2, -1, 0), 1, ints(0, 2), 1},
		// it slides to the end of the ledge, and no farther
		{test{3, ints(0, 1, 2, 0, 1, 2)}, ints(0, 1, 2, -1, -1, -1), 6, ints(0, 1, 2), 3},
	} {
		if lies, slid := mustLie(t, c.test); !slices.Equal(lies, c.lies) || slid != c.slid {
			t.Error(i, lies, slid)
		}
		if full, fell := mustFull(t, c.test); !slices.Equal(full, c.full) || fell != c.fell {
			t.Error(i, full, fell)
		}
	}
}

// P4.2, by the definition.
func TestLie(t *testing.T) {
	for _, q := range tests() {
		want := laid(q)
		if lies, slid := mustLie(t, q); !slices.Equal(lies, want.lies) || slid != want.slid {
			t.Fatal(q, lies, slid)
		}
		if full, fell := mustFull(t, q); !slices.Equal(full, want.full) || fell != want.fell {
			t.Fatal(q, full, fell)
		}
	}
}

// P4.3: examples of the chapter, and others.
func TestCheckOver(t *testing.T) {
	for i, c := range []struct {
		test
		place, many int
		e           api.Errno
	}{
		{test{5, dropsE()}, 3, 2, api.OK},
		{test{5, dropsE()}, 4, 1, api.OK},
		{test{5, dropsE()}, 0, -1, api.OK},
		{test{5, dropsE()}, 5, 0, api.ErrArg},
		{test{5, dropsE()}, -1, 0, api.ErrArg},
		{test{5, dropsE()}, math.MaxInt, 0, api.ErrArg},
		{test{5, dropsE()}, math.MinInt, 0, api.ErrArg},
		{test{8, nil}, 0, -8, api.OK},
		{test{8, nil}, 7, -1, api.OK},
		{test{8, nil}, 8, 0, api.ErrArg},
		{test{1, make([]int, 12)}, 0, 11, api.OK},
		{test{1, make([]int, 12)}, 1, 0, api.ErrArg},
		{test{8, slices.Repeat(ints(7), 12)}, 7, 11, api.OK},
		{test{8, slices.Repeat(ints(7), 12)}, 0, 4, api.OK},
		{test{4, ints(1, 1, 1)}, 2, -2, api.OK},
	} {
		if many, e := ledge.CheckOver(c.places, c.drops, c.place); many != c.many || e != c.e {
			t.Error(i, many, e)
		}
	}
}

// P4.3: examples of the chapter, and others.
func TestOver(t *testing.T) {
	for i, c := range []struct {
		test
		place int
		e     api.Errno
	}{
		{test{5, dropsE()}, 3, api.OK},
		{test{5, dropsD()}, 0, api.ErrLedge},
		{test{5, nil}, 0, api.ErrLedge},
		{test{8, make([]int, 8)}, 0, api.ErrLedge},
		{test{8, make([]int, 9)}, 0, api.OK},
		{test{1, ints(0, 0)}, 0, api.OK},
		{test{8, ints(7, 7)}, 7, api.OK},
		// the places 0 and 2 prove the same, the first one is meant
		{test{3, ints(2, 2, 0, 0)}, 0, api.OK},
		{test{4, ints(3, 3, 2)}, 2, api.OK},
		{test{4, ints(3, 3, 3, 1)}, 3, api.OK},
	} {
		if place, e := ledge.Over(c.places, c.drops); place != c.place || e != c.e {
			t.Error(i, place, e)
		}
	}
}
