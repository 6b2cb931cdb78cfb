package ledge_test

import (
	"math"
	"slices"
	"testing"

	"pennyfall/api"
	"pennyfall/ledge"
)

// P4.4: examples of the chapter, and others.
func TestRowOfSome(t *testing.T) {
	for i, c := range []struct {
		test
		may []int
		e   api.Errno
	}{
		{test{5, dropsD()}, ints(0, 1, 2, 3, 4), api.OK},
		{test{5, ints(0, 3)}, ints(0, 1, 2, 3, 4), api.OK},
		{test{5, dropsE()}, nil, api.ErrLedge},
		{test{5, nil}, ints(0, 1, 2, 3, 4), api.OK},
		{test{5, ints(3, 4)}, ints(0, 1, 2), api.OK},
		{test{5, ints(4)}, ints(0, 1, 2, 3), api.OK},
		{test{5, ints(3)}, ints(0, 1, 2, 3, 4), api.OK},
		{test{1, ints(0)}, nil, api.OK},
		{test{1, ints(0, 0)}, nil, api.ErrLedge},
		{test{8, make([]int, 8)}, nil, api.OK},
		{test{8, ints(7, 6, 5, 4, 3, 2, 1)}, ints(0), api.OK},
		{test{8, make([]int, 12)}, nil, api.ErrLedge},
		{test{3, ints(2, 2, 0)}, nil, api.ErrLedge},
	} {
		if e := ledge.CheckRow(c.places, c.drops); e != c.e {
			t.Error(i, e)
		}
		if may, e := ledge.May(c.places, c.drops); !slices.Equal(may, c.may) || e != c.e {
			t.Error(i, may, e)
		}
	}
}

// P4.4, by the definition.
func TestRow(t *testing.T) {
	good, bad := 0, 0
	for _, q := range tests() {
		e, want := ledge.CheckRow(q.places, q.drops), api.OK
		if laid(q).fell > 0 {
			want = api.ErrLedge
			bad++
		}
		var list []int
		for from := range q.places {
			if laid(test{q.places, append(slices.Clone(q.drops), from)}).fell == 0 {
				list = append(list, from)
				good++
			}
		}
		may, e2 := ledge.May(q.places, q.drops)
		if e != want || e2 != want || !slices.Equal(may, list) {
			t.Fatal(q, e, e2, may, list)
		}
	}
	if good < 1000 || bad < 1000 {
		t.Error("too few of a kind:", good, bad)
	}
}

// P4.5: examples of the chapter, the ends of the numbers, and others.
func TestCountOfSome(t *testing.T) {
	for i, c := range []struct {
		places, coppers int
		many            int64
		e               api.Errno
	}{
		{5, 4, 432, api.OK},
		{5, 6, 0, api.OK},
		{3, 3, 16, api.OK},
		{5, 13, 0, api.ErrRange},
		{5, 12, 0, api.OK},
		{5, 0, 1, api.OK},
		{5, -1, 0, api.ErrRange},
		{5, math.MaxInt, 0, api.ErrRange},
		{5, math.MinInt, 0, api.ErrRange},
		{1, 0, 1, api.OK},
		{1, 1, 1, api.OK},
		{1, 2, 0, api.OK},
		{8, 1, 8, api.OK},
		{8, 7, 1062882, api.OK},
		{8, 8, 4782969, api.OK},
		{8, 9, 0, api.OK},
		{8, 12, 0, api.OK},
		{0, 0, 0, api.ErrMany},
		{9, 0, 0, api.ErrMany},
		{0, 13, 0, api.ErrMany},
		{9, -1, 0, api.ErrMany},
		{math.MinInt, 1, 0, api.ErrMany},
		{math.MaxInt, 1, 0, api.ErrMany},
	} {
		if many, e := ledge.Count(c.places, c.coppers); many != c.many || e != c.e {
			t.Error(i, many, e)
		}
	}
}

// P4.6: examples of the chapter, the ends of the numbers, and others.
func TestLeaveOfSome(t *testing.T) {
	for i, c := range []struct {
		places int
		full   []int
		many   int64
		e      api.Errno
	}{
		{5, ints(0, 1, 2, 3), 125, api.OK},
		{5, ints(0, 1, 3), 9, api.OK},
		{5, nil, 1, api.OK},
		{5, ints(1, 0), 0, api.ErrRange},
		{5, ints(1, 1), 0, api.ErrRange},
		{5, ints(5), 0, api.ErrRange},
		{5, ints(-1), 0, api.ErrRange},
		{5, ints(-1, 0), 0, api.ErrRange},
		{5, ints(0, 1, 2, 3, 4, 5), 0, api.ErrRange},
		{5, make([]int, 100), 0, api.ErrRange},
		{5, ints(math.MinInt, math.MaxInt), 0, api.ErrRange},
		{1, ints(0), 1, api.OK},
		{8, ints(7), 1, api.OK},
		{8, ints(6, 7), 3, api.OK},
		{8, ints(0, 2, 4, 6), 24, api.OK},
		{8, ints(0, 1, 2, 3, 4, 5, 6, 7), 4782969, api.OK},
		{8, ints(0, 1, 2, 3, 4, 5, 6, 7, 8), 0, api.ErrRange},
		{0, nil, 0, api.ErrMany},
		{9, nil, 0, api.ErrMany},
		{0, ints(1, 0), 0, api.ErrMany},
		{-1, ints(-1), 0, api.ErrMany},
	} {
		if many, e := ledge.Leave(c.places, c.full); many != c.many || e != c.e {
			t.Error(i, many, e)
		}
	}
}

// P4.7: examples of the chapter, the ends of the numbers, and others.
func TestWaysOfSome(t *testing.T) {
	for i, c := range []struct {
		places int
		lie    []int
		many   int64
		e      api.Errno
	}{
		{5, ints(2, 0, 3, 1), 4, api.OK},
		{5, ints(0, 1), 2, api.OK},
		{5, ints(1, 1), 0, api.ErrHave},
		{5, ints(5), 0, api.ErrRange},
		{5, nil, 1, api.OK},
		{5, ints(1, 0), 1, api.OK},
		{5, ints(-1), 0, api.ErrRange},
		{5, ints(math.MaxInt), 0, api.ErrRange},
		{5, ints(0, math.MinInt), 0, api.ErrRange},
		{5, ints(0, 1, 2, 3, 4, 0), 0, api.ErrHave},
		{1, make([]int, 100), 0, api.ErrHave},
		{1, ints(0), 1, api.OK},
		{8, ints(0, 1, 2, 3, 4, 5, 6, 7), 40320, api.OK},
		{8, ints(7, 6, 5, 4, 3, 2, 1, 0), 1, api.OK},
		{8, ints(1, 2, 0, 3), 8, api.OK},
		// all are looked at for the first error before any is for the second one
		{5, ints(1, 1, 5), 0, api.ErrRange},
		{5, ints(5, 5), 0, api.ErrRange},
		{0, nil, 0, api.ErrMany},
		{9, nil, 0, api.ErrMany},
		{0, ints(1, 1), 0, api.ErrMany},
		{9, ints(9), 0, api.ErrMany},
		{math.MaxInt, ints(0), 0, api.ErrMany},
		{math.MinInt, ints(0), 0, api.ErrMany},
	} {
		if many, e := ledge.Ways(c.places, c.lie); many != c.many || e != c.e {
			t.Error(i, many, e)
		}
	}
}

// P4.5 to P4.7, by counting all rows one by one.
func TestCounted(t *testing.T) {
	for places := 1; places <= api.MaxLedgePlaces; places++ {
		for coppers := range api.MaxLedgeDrops + 1 {
			want := countedRows(places, coppers)
			if many := mustCount(t, places, coppers); many != want.all {
				t.Fatal(places, coppers, many, want.all)
			}
			for set := range 1 << places {
				full := members(set)
				if len(full) != coppers {
					continue
				}
				if many := mustLeave(t, places, full); many != want.leave[set] || many == 0 {
					t.Fatal(places, full, many, want.leave[set])
				}
			}
			if places > 6 {
				continue
			}
			eachLie(places, coppers, func(lie []int) {
				if many := mustWays(t, places, lie); many != want.lie[key(lie)] || many == 0 {
					t.Fatal(places, lie, many, want.lie[key(lie)])
				}
			})
		}
	}
}
