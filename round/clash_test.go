package round_test

import (
	"math"
	"slices"
	"testing"

	"pennyfall/api"
	"pennyfall/round"
)

// P7.7: examples of the chapter, and others.
func TestCheckClashOfSome(t *testing.T) {
	for i, c := range []struct {
		p     api.RoundPier
		stops []int
		e     api.Errno
	}{
		{pierQ(), ints(0, 2), api.OK},
		{pierQ(), ints(0, 1), api.ErrNone},
		{pierQ(), ints(2, 0), api.ErrArg},
		{pierQ(), ints(0, 2, 3), api.OK},
		{pierQ(), ints(0, 1, 2, 3), api.OK},
		{pierQ(), ints(1, 2, 3), api.ErrNone},
		{pierQ(), ints(0), api.ErrNone},
		{pierQ(), nil, api.ErrNone},
		{pierP(), ints(0, 1, 2, 3), api.ErrNone},
		{pierP(), nil, api.ErrNone},
		{pier(5, stop(6, 0)), ints(0), api.OK},
		{pier(5, stop(6, 0)), nil, api.ErrNone},
		{pier(5, stop(6, 1)), ints(0), api.ErrNone},
		{pier(5, stop(4, 2), stop(6, 2)), ints(0, 1), api.OK},
		{pier(5, stop(4, 3), stop(6, 1)), ints(0, 1), api.ErrNone},
		{pier(5, stop(4, 2), stop(6, 1)), ints(0, 1), api.OK},
		{pier(5, stop(3, 3), stop(7, 3)), ints(0, 1), api.OK},
		{pier(5, stop(3, 3), stop(7, 3)), ints(0), api.ErrNone},
		{pier(5, stop(3, 3), stop(7, 3)), ints(1), api.ErrNone},
		// no stops of the pier, one twice, or not increasing
		{pierQ(), ints(0, 4), api.ErrArg},
		{pierQ(), ints(-1, 2), api.ErrArg},
		{pierQ(), ints(0, 0), api.ErrArg},
		{pierQ(), ints(0, 2, 2), api.ErrArg},
		{pierQ(), ints(0, 2, 1), api.ErrArg},
		{pierQ(), ints(0, 1, 2, 3, 4), api.ErrArg},
		{pierQ(), ints(math.MinInt, math.MaxInt), api.ErrArg},
		{pierQ(), make([]int, 5000), api.ErrArg},
		{pierP(), ints(10), api.ErrArg},
		{pierP(), ints(1, 0), api.ErrArg},
	} {
		if e := round.CheckClash(c.p, c.stops); e != c.e {
			t.Error(i, e)
		}
	}
}

// P7.7: examples of the chapter, and others.
func TestClashOfSome(t *testing.T) {
	for i, c := range []struct {
		p     api.RoundPier
		stops []int
		e     api.Errno
	}{
		{pierQ(), ints(0, 2), api.OK},
		{pierP(), nil, api.ErrNone},
		{pier(5, stop(6, 0)), ints(0), api.OK},
		{pier(5, stop(6, 1)), nil, api.ErrNone},
		{pier(5, stop(6, 9), stop(7, 1)), ints(1), api.OK},
		{pier(5, stop(3, 3), stop(7, 3)), ints(0, 1), api.OK},
		// one that is late in any case is fewer than two that clash
		{pier(5, stop(3, 3), stop(7, 3), stop(8, 2)), ints(2), api.OK},
		// the first of several
		{pier(5, stop(2, 1), stop(3, 1), stop(7, 1)), ints(0), api.OK},
		{pier(5, stop(2, 99), stop(3, 3), stop(7, 3), stop(8, 3)), ints(1, 2), api.OK},
		{pier(5, stop(2, 3), stop(3, 3), stop(7, 3), stop(8, 99)), ints(0, 2), api.OK},
		// three clash, no two of them
		{pier(7, stop(1, 9), stop(6, 1), stop(8, 4)), ints(0, 1, 2), api.OK},
		{pier(9, stop(0, 18), stop(5, 4), stop(8, 3), stop(10, 9)), ints(0, 1, 3), api.OK},
		{pier(5, stop(1, 16), stop(2, 6), stop(6, 2), stop(7, 11), stop(9, 23)), ints(0, 1, 2, 3, 4), api.OK},
		{farPier(0), ints(0), api.OK},
		{farPier(1499), ints(0, 9), api.OK},
		{farPier(1500), nil, api.ErrNone},
	} {
		if stops, e := round.Clash(c.p); !slices.Equal(stops, c.stops) || e != c.e {
			t.Error(i, stops, e)
		}
	}
}

// P7.7 and P7.9, by the definition.
func TestClash(t *testing.T) {
	found := [11]int{}
	for _, p := range all() {
		stops, e := round.Clash(p)
		if len(inTime(p)) > 0 {
			if len(stops) > 0 || e != api.ErrNone || must(t, round.Count, p) == 0 {
				t.Fatal(p, stops, e)
			}
			continue
		}
		if want := fewestClashing(p); !slices.Equal(stops, want) || e != api.OK || must(t, round.Count, p) > 0 {
			t.Fatal(p, stops, e, want)
		}
		found[len(stops)]++
		if e := round.CheckClash(p, stops); e != api.OK {
			t.Fatal(p, stops, e)
		}
	}
	for many := 1; many <= 4; many++ {
		if found[many] < 20 {
			t.Error("too few of a kind:", found)
		}
	}
}

// P7.7 and P7.9, by the definition: all lists of few stops, some of many.
func TestCheckClash(t *testing.T) {
	c, found := chance{at: 3}, map[api.Errno]int{}
	for _, p := range all() {
		for set := range 1 << len(p.Stops) {
			if len(p.Stops) > 3 && c.below(1<<len(p.Stops)) >= 8 {
				continue
			}
			stops, want := members(set), api.ErrNone
			if clashing(p, stops) {
				want = api.OK
			}
			found[want]++
			if e := round.CheckClash(p, stops); e != want || e == api.OK && must(t, round.Count, p) > 0 {
				t.Fatal(p, stops, e)
			}
		}
	}
	if found[api.OK] < 1000 || found[api.ErrNone] < 1000 {
		t.Error("too few of a kind:", found)
	}
}
