package box_test

import (
	"math"
	"slices"
	"testing"

	"pennyfall/api"
	"pennyfall/box"
)

// P6.2: examples of the chapter, and others.
func TestCheckTruthOfSome(t *testing.T) {
	ring := hall(gains(ranged(0, 0), ranged(0, 0)), move(0, 1, 0, 100), move(1, 0, 0, 100))
	for i, c := range []struct {
		h     api.BoxHall
		truth []int64
		e     api.Errno
	}{
		{hallH(), numbers(6, 2), api.OK},
		{hallH(), numbers(6, 3), api.OK},
		{hallH(), numbers(7, 3), api.OK},
		{hallH(), numbers(7, 2), api.ErrRule},
		{hallH(), numbers(5, 2), api.ErrRule}, // within the counts, but not the gains
		{hallH(), numbers(8, 4), api.ErrRule},
		{hallH(), numbers(0, 0), api.ErrRule},
		{hallG(), numbers(6, 2), api.ErrRule},
		{hallH(), numbers(7), api.ErrEqual},
		{hallH(), nil, api.ErrEqual},
		{hallH(), numbers(6, 2, 0), api.ErrEqual},
		{hallH(), numbers(101, 2), api.ErrRange},
		{hallH(), numbers(6, -1), api.ErrRange},
		{hallH(), numbers(math.MaxInt64, math.MinInt64), api.ErrRange},
		{hallH(), numbers(-1), api.ErrEqual},
		{hallH(), numbers(0, 101), api.ErrRange},
		{ring, numbers(0, 0), api.OK},
		{ring, numbers(100, 100), api.OK},
		{ring, numbers(100, 99), api.ErrRule},
		{hall(gains(ranged(-1, 0))), nil, api.OK},
		{hall(gains(ranged(1, 1))), nil, api.ErrRule},
		{hall(gains(ranged(-1, -1))), nil, api.ErrRule},
		{hall(gains(ranged(0, 0))), numbers(0), api.ErrEqual},
	} {
		if e := box.CheckTruth(c.h, c.truth); e != c.e {
			t.Error(i, e)
		}
	}
}

// P6.2: examples of the chapter, and others.
func TestTruthOfSome(t *testing.T) {
	mustTruth(t, hallH())
	if truth, e := box.Truth(hallG()); len(truth) > 0 || e != api.ErrBox {
		t.Error(truth, e)
	}
	mustTruth(t, hall(gains(ranged(0, 0))))
	if truth, e := box.Truth(hall(gains(ranged(1, 2)))); len(truth) > 0 || e != api.ErrBox {
		t.Error(truth, e)
	}
	// all that can go goes round, and by ways beside each other
	most := hall(gains(ranged(-700, -700), ranged(700, 700)), slices.Repeat([]api.BoxMove{move(0, 1, 0, 100)}, 7)...)
	if truth := mustTruth(t, most); !slices.Equal(truth, slices.Repeat(numbers(100), 7)) {
		t.Error(truth)
	}
	most.Gains[0].Lo, most.Gains[1].Hi = -699, 699
	most.Gains[0].Hi, most.Gains[1].Lo = -699, 699
	mustTruth(t, most)
	most.Moves[3].Count.Hi = 98
	mustRefute(t, most)
}

// P6.2, by the definition.
func TestTruth(t *testing.T) {
	some, none := 0, 0
	for _, h := range small() {
		truths := truthsOf(h)
		truth, e := box.Truth(h)
		switch {
		case len(truths) == 0 && (len(truth) > 0 || e != api.ErrBox):
			t.Fatal(h, truth, e)
		case len(truths) == 0:
			none++
		case e != api.OK || !slices.ContainsFunc(truths, func(x []int64) bool { return slices.Equal(x, truth) }):
			t.Fatal(h, truth, e)
		default:
			some++
		}
	}
	if some < 500 || none < 400 {
		t.Error("too few of a kind:", some, none)
	}
}

// P6.2: CheckTruth by the definition, for truths that agree or nearly do.
func TestCheckTruth(t *testing.T) {
	c, is, not := chance{at: 3}, 0, 0
	for _, h := range all() {
		list := [][]int64{c.truth(len(h.Moves), 4), c.truth(len(h.Moves), 100)}
		if truth, e := box.Truth(h); e == api.OK {
			near := slices.Clone(truth)
			for i := range near {
				near[i] = min(max(near[i]+c.from(-1, 1), 0), 100)
			}
			list = append(list, truth, near)
		}
		for _, truth := range list {
			want := api.OK
			if len(wrongOf(h, truth)) > 0 {
				want = api.ErrRule
				not++
			} else {
				is++
			}
			if e := box.CheckTruth(h, truth); e != want {
				t.Fatal(h, truth, e)
			}
		}
	}
	if is < 1000 || not < 1000 {
		t.Error("too few of a kind:", is, not)
	}
}

// P6.4: examples of the chapter, and others.
func TestSpanOfSome(t *testing.T) {
	free := hall(gains(ranged(-700, 700), ranged(-700, 700)), move(0, 1, 0, 100), move(1, 0, 3, 3))
	for i, c := range []struct {
		h       api.BoxHall
		reading int // of two moves, and then of stores
		r       api.Range
		e       api.Errno
	}{
		{hallH(), 0, ranged(6, 7), api.OK},
		{hallH(), 1, ranged(2, 3), api.OK},
		{hallH(), 2, ranged(-7, -6), api.OK},
		{hallH(), 3, ranged(3, 4), api.OK},
		{hallH(), 4, ranged(2, 3), api.OK},
		{hallH(), 5, api.Range{}, api.ErrRange},
		{hallH(), math.MaxInt, api.Range{}, api.ErrRange},
		{hallG(), 0, api.Range{}, api.ErrBox},
		{hallG(), 4, api.Range{}, api.ErrBox},
		{hallG(), 5, api.Range{}, api.ErrRange},
		{free, 0, ranged(0, 100), api.OK},
		{free, 1, ranged(3, 3), api.OK},
		{free, 2, ranged(-97, 3), api.OK},
		{free, 3, ranged(-3, 97), api.OK},
	} {
		if r, e := spanOf(c.h, c.reading); r != c.r || e != c.e {
			t.Error(i, r, e)
		}
	}
	for _, n := range ints(2, -1, math.MinInt, math.MaxInt) {
		for _, h := range []api.BoxHall{hallH(), hallG()} {
			if r, e := box.Span(h, n); r != (api.Range{}) || e != api.ErrRange {
				t.Error(n, r, e)
			}
		}
	}
	for _, n := range ints(3, -1, math.MinInt, math.MaxInt) {
		for _, h := range []api.BoxHall{hallH(), hallG()} {
			if r, e := box.Gain(h, n); r != (api.Range{}) || e != api.ErrRange {
				t.Error(n, r, e)
			}
		}
	}
}

// P6.4, by the definition: over all truths.
func TestSpan(t *testing.T) {
	for _, h := range small() {
		truths := truthsOf(h)
		for i := range readings(h) {
			if len(truths) == 0 {
				if r, e := spanOf(h, i); r != (api.Range{}) || e != api.ErrBox {
					t.Fatal(h, i, r, e)
				}
				continue
			}
			want := ranged(math.MaxInt64, math.MinInt64)
			for _, truth := range truths {
				n := numbersOf(h, truth)[i]
				want = ranged(min(want.Lo, n), max(want.Hi, n))
			}
			if r := mustSpan(t, h, i); r != want {
				t.Fatal(h, i, r, want)
			}
		}
	}
}

// P6.4 and P6.8: each number between the ends is had by a truth, and stores prove
// that none is beyond them.
func TestSpanIsProved(t *testing.T) {
	inner, least, most := 0, 0, 0
	for _, h := range good(t, all()) {
		truth := mustTruth(t, h)
		for i, n := range numbersOf(h, truth) {
			r, ends := mustSpan(t, h, i), *endsOf(h, i)
			if !in(r, n) || !isIn(r, ends) {
				t.Fatal(h, truth, i, r)
			}
			step := max(1, (r.Hi-r.Lo)/7)
			for n := r.Lo; n <= r.Hi; n += step {
				mustTruth(t, with(h, i, ranged(n, n)))
				inner++
			}
			mustTruth(t, with(h, i, ranged(r.Hi, r.Hi)))
			if r.Lo > ends.Lo {
				mustRefute(t, with(h, i, ranged(ends.Lo, r.Lo-1)))
				least++
			}
			if r.Hi < ends.Hi {
				mustRefute(t, with(h, i, ranged(r.Hi+1, ends.Hi)))
				most++
			}
		}
	}
	if inner < 10000 || least < 1000 || most < 1000 {
		t.Error("too few of a kind:", inner, least, most)
	}
}
