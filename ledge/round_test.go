package ledge_test

import (
	"slices"
	"testing"

	"pennyfall/api"
	"pennyfall/ledge"
)

// P4.8: examples of the chapter, and others.
func TestRoundOfSome(t *testing.T) {
	for i, c := range []struct {
		test
		lies []int
		slid int
		e    api.Errno
	}{
		{test{5, ints(4, 4, 3)}, ints(4, 0, 3), 1, api.OK},
		{test{3, ints(2, 2, 2)}, ints(2, 0, 1), 3, api.OK},
		{test{3, ints(0, 0, 0, 0)}, nil, 0, api.ErrFull},
		{test{3, nil}, nil, 0, api.OK},
		{test{1, ints(0)}, ints(0), 0, api.OK},
		{test{1, ints(0, 0)}, nil, 0, api.ErrFull},
		{test{8, slices.Repeat(ints(7), 8)}, ints(7, 0, 1, 2, 3, 4, 5, 6), 28, api.OK},
		{test{8, slices.Repeat(ints(7), 9)}, nil, 0, api.ErrFull},
		{test{8, make([]int, 12)}, nil, 0, api.ErrFull},
		// the last free place is just before that of the drop
		{test{4, ints(1, 2, 3, 1)}, ints(1, 2, 3, 0), 3, api.OK},
		{test{4, ints(2, 3, 0, 2)}, ints(2, 3, 0, 1), 3, api.OK},
		// the drops before their number
		{test{3, ints(0, 0, 0, 3)}, nil, 0, api.ErrRange},
		{test{3, make([]int, 13)}, nil, 0, api.ErrMany},
	} {
		if lies, slid, e := ledge.Round(c.places, c.drops); !slices.Equal(lies, c.lies) || slid != c.slid || e != c.e {
			t.Error(i, lies, slid, e)
		}
	}
}

// P4.8, by the definition.
func TestRound(t *testing.T) {
	good, full := 0, 0
	for _, q := range tests() {
		if len(q.drops) > q.places {
			full++
			if lies, slid, e := ledge.Round(q.places, q.drops); len(lies) > 0 || slid != 0 || e != api.ErrFull {
				t.Fatal(q, lies, slid, e)
			}
			continue
		}
		good++
		want := rounded(q)
		if lies, slid := mustRound(t, q); !slices.Equal(lies, want.lies) || slid != want.slid {
			t.Fatal(q, lies, slid)
		}
	}
	if good < 1000 || full < 1000 {
		t.Error("too few of a kind:", good, full)
	}
}
