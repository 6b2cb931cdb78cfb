package season_test

import (
	"math"
	"slices"
	"testing"

	"pennyfall/api"
	"pennyfall/season"
)

// P12.3: examples of the chapter, and others.
func TestMarksOfSome(t *testing.T) {
	for i, x := range []struct {
		s     api.Season
		marks []int
		e     api.Errno
	}{
		{seasonS(), ints(3, 0, 3, 0, 0), api.OK},
		{seasonJ(), ints(5, 0, 3, 0, 0), api.OK},
		{seasonT(), ints(0, 0, 0, 0, 0), api.OK},
		{api.Season{}, ints(0, 0, 0, 0, 0), api.OK},
		{coins(0, 24), ints(24, 0, 0, 0, 0), api.OK},
		{coins(4, 24), ints(0, 0, 0, 0, 24), api.OK},
		{book(entry(1, 1, box, 0), entry(3, 1, box, 0), entry(3, 2, back, 1)), ints(0, 1, 0, 2, 0), api.OK},
		{book(entry(1, 2, coin, 1), entry(1, 3, coin, 1)), ints(0, 0, 0, 0, 0), api.OK},
		{book(entry(1, 1, coin, 1), entry(1, 3, coin, 1), entry(1, 4, coin, 1)), ints(0, 1, 0, 0, 0), api.OK},
		{book(entry(1, 30, coin, 1)), ints(0, 0, 0, 0, 0), api.OK},
		{book(entry(1, 1, coin, 1), entry(2, 2, coin, 1)), ints(0, 1, 0, 0, 0), api.OK},
		// invalid
		{coins(0, 25), nil, api.ErrMany},
		{book(entry(5, 1, coin, 1)), nil, api.ErrRange},
		{book(entry(1, 2, coin, 1), entry(1, 1, coin, 1)), nil, api.ErrRule},
	} {
		if marks, e := season.Marks(x.s); !slices.Equal(marks, x.marks) || e != x.e {
			t.Error(i, marks, e)
		}
	}
}

// P12.3: examples of the chapter, and others.
func TestGapsOfSome(t *testing.T) {
	all := make([]int, 29)
	for i := range all {
		all[i] = i + 1
	}
	for i, x := range []struct {
		s       api.Season
		machine int
		gaps    []int
		e       api.Errno
	}{
		{seasonS(), 0, ints(4), api.OK},
		{seasonS(), 2, nil, api.OK},
		{seasonS(), 5, nil, api.ErrArg},
		{seasonS(), 1, nil, api.OK},
		{seasonS(), 4, nil, api.OK},
		{seasonS(), -1, nil, api.ErrArg},
		{seasonS(), math.MinInt, nil, api.ErrArg},
		{seasonS(), math.MaxInt, nil, api.ErrArg},
		{seasonJ(), 0, nil, api.OK},
		{seasonT(), 0, ints(1, 2), api.OK},
		{api.Season{}, 0, nil, api.OK},
		{coins(4, 24), 4, nil, api.OK},
		{book(entry(4, 30, coin, 1)), 4, all, api.OK},
		{book(entry(4, 1, coin, 1), entry(4, 30, coin, 1)), 4, all[1:], api.OK},
		{book(entry(4, 2, coin, 1), entry(4, 29, coin, 1)), 4, append(ints(1), all[2:28]...), api.OK},
		{book(entry(1, 2, coin, 1), entry(1, 4, coin, 1), entry(1, 7, coin, 1)), 1, ints(1, 3, 5, 6), api.OK},
		{book(entry(1, 2, coin, 1), entry(2, 4, coin, 1)), 1, ints(1), api.OK},
		{book(entry(1, 2, coin, 1), entry(2, 4, coin, 1)), 2, ints(1, 2, 3), api.OK},
		// invalid
		{coins(0, 25), 5, nil, api.ErrMany},
		{book(entry(0, 1, 9, 1)), 0, nil, api.ErrArg},
		{book(entry(0, 31, coin, 1)), 5, nil, api.ErrRange},
		{book(entry(1, 2, coin, 1), entry(1, 1, coin, 1)), 5, nil, api.ErrRule},
	} {
		if gaps, e := season.Gaps(x.s, x.machine); !slices.Equal(gaps, x.gaps) || e != x.e {
			t.Error(i, gaps, e)
		}
	}
}

// P12.3, by the definition: all small seasons, and others.
func TestMarksAndGaps(t *testing.T) {
	gapped, whole := 0, 0
	for _, s := range append(allWith(4), seasons()...) {
		if marks := must(t, season.Marks, s); !slices.Equal(marks, marksOf(s)) {
			t.Fatal(s, marks)
		}
		for _, machine := range machines() {
			gaps := told(t, season.Gaps, s, machine)
			if !slices.Equal(gaps, gapsOf(s, machine)) {
				t.Fatal(s, machine, gaps)
			}
			if len(gaps) > 0 {
				gapped++
			} else {
				whole++
			}
		}
	}
	if min(gapped, whole) < 2000 {
		t.Error("too few of a kind:", gapped, whole)
	}
}

// P12.4: examples of the chapter, and others.
func TestSinceOfSome(t *testing.T) {
	for i, x := range []struct {
		s     api.Season
		marks []int
		out   api.Season
		e     api.Errno
	}{
		{seasonJ(), ints(3, 0, 3, 0, 0), book(entry(0, 4, plea, 1), entry(0, 5, coin, 1)), api.OK},
		{seasonJ(), ints(0, 0, 0), api.Season{}, api.ErrRange},
		{seasonT(), ints(3, 0, 3, 0, 0), book(entry(0, 4, plea, 1)), api.OK},
		{seasonJ(), ints(0, 0, 0, 0, 0), seasonJ(), api.OK},
		{seasonJ(), ints(30, 30, 30, 30, 30), api.Season{}, api.OK},
		{seasonJ(), ints(30, 30, 2, 30, 30), book(entry(2, 3, back, 1)), api.OK},
		{seasonJ(), ints(0, 0, 30, 0, 0), book(seasonJ().Entries[:5]...), api.OK},
		{seasonS(), ints(5, 0, 3, 0, 0), api.Season{}, api.OK},
		{seasonS(), ints(4, 0, 3, 0, 0), book(entry(0, 5, coin, 1)), api.OK},
		{api.Season{}, ints(0, 0, 0, 0, 0), api.Season{}, api.OK},
		{api.Season{}, ints(1, 2, 3, 4, 5), api.Season{}, api.OK},
		{book(entry(4, 30, coin, 1)), ints(0, 0, 0, 0, 29), book(entry(4, 30, coin, 1)), api.OK},
		{book(entry(4, 30, coin, 1)), ints(0, 0, 0, 0, 30), api.Season{}, api.OK},
		// invalid
		{seasonJ(), nil, api.Season{}, api.ErrRange},
		{seasonJ(), ints(0, 0, 0, 0), api.Season{}, api.ErrRange},
		{seasonJ(), ints(0, 0, 0, 0, 0, 0), api.Season{}, api.ErrRange},
		{seasonJ(), make([]int, 5000), api.Season{}, api.ErrRange},
		{seasonJ(), ints(31, 0, 0, 0, 0), api.Season{}, api.ErrRange},
		{seasonJ(), ints(0, 0, 0, 0, 31), api.Season{}, api.ErrRange},
		{seasonJ(), ints(-1, 0, 0, 0, 0), api.Season{}, api.ErrRange},
		{seasonJ(), ints(0, 0, 0, -1, 0), api.Season{}, api.ErrRange},
		{seasonJ(), ints(0, 0, math.MaxInt, 0, 0), api.Season{}, api.ErrRange},
		{seasonJ(), ints(0, math.MinInt, 0, 0, 0), api.Season{}, api.ErrRange},
		{coins(0, 25), nil, api.Season{}, api.ErrMany},
		{book(entry(0, 1, 9, 1)), nil, api.Season{}, api.ErrArg},
		{book(entry(1, 2, coin, 1), entry(1, 1, coin, 1)), nil, api.Season{}, api.ErrRule},
	} {
		if out, e := season.Since(x.s, x.marks); !equalSeasons(out, x.out) || e != x.e {
			t.Error(i, out, e)
		}
	}
}

// P12.4, by the definition: all small seasons with small marks, and others with marks of
// chance, and with those of another season.
func TestSince(t *testing.T) {
	for _, s := range allWith(3) {
		for mark := range 5 {
			checkSince(t, s, ints(mark, 0, 30, 1, 0))
			checkSince(t, s, ints(mark, 0, 0, 0, 0))
		}
	}
	c, all := chance{at: 5}, seasons()
	none, some, whole := 0, 0, 0
	for _, s := range all {
		for _, marks := range [][]int{c.marks(s), c.marks(s), marksOf(s), marksOf(c.part(s)), marksOf(oneOf(&c, all))} {
			switch out := checkSince(t, s, marks); len(out.Entries) {
			case 0:
				none++
			case len(s.Entries):
				whole++
			default:
				some++
			}
		}
	}
	if min(none, some, whole) < 500 {
		t.Error("too few of a kind:", none, some, whole)
	}
}

// checkSince holds Since against the definition.
func checkSince(t *testing.T, s api.Season, marks []int) api.Season {
	t.Helper()
	out := told(t, season.Since, s, marks)
	if !equalSeasons(out, sinceOf(s, marks)) {
		t.Fatal(s, marks, out)
	}
	return out
}
