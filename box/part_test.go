package box_test

import (
	"math"
	"slices"
	"testing"

	"pennyfall/api"
	"pennyfall/box"
)

// P6.3: examples of the chapter, and others.
func TestCheckPartOfSome(t *testing.T) {
	for i, c := range []struct {
		h      api.BoxHall
		side   int
		stores []int
		many   int64
		e      api.Errno
	}{
		{hallG(), 2, ints(1), 1, api.OK},
		{hallG(), 1, ints(1), 0, api.ErrSum},
		{hallG(), 2, ints(0), 0, api.ErrSum},
		{hallG(), 3, ints(1), 0, api.ErrArg},
		{hallG(), 2, ints(1, 0), 0, api.ErrRange},
		{hallG(), 0, ints(1), 0, api.ErrArg},
		{hallG(), -1, ints(1), 0, api.ErrArg},
		{hallG(), math.MinInt, ints(1), 0, api.ErrArg},
		{hallG(), math.MaxInt, ints(1), 0, api.ErrArg},
		{hallG(), 2, nil, 0, api.ErrRange},
		{hallG(), 1, nil, 0, api.ErrRange},
		{hallG(), 2, ints(1, 1), 0, api.ErrRange},
		{hallG(), 2, ints(3), 0, api.ErrRange},
		{hallG(), 2, ints(-1), 0, api.ErrRange},
		{hallG(), 2, ints(-1, 1), 0, api.ErrRange},
		{hallG(), 2, ints(1, 3), 0, api.ErrRange},
		{hallG(), 2, ints(0, 1, 2, 3), 0, api.ErrRange},
		{hallG(), 2, ints(math.MinInt, math.MaxInt), 0, api.ErrRange},
		{hallG(), 3, ints(1, 0), 0, api.ErrArg},
		{hallG(), 3, nil, 0, api.ErrArg},
		{hallG(), 2, ints(1, 2), 0, api.ErrSum},
		{hallG(), 2, ints(0, 1), 1, api.OK}, // they get at most -2, and should gain at least -1
		{hallG(), 1, ints(0, 1, 2), 0, api.ErrSum},
		{hallH(), 1, ints(1), 0, api.ErrSum},
		{hallH(), 2, ints(0, 1, 2), 0, api.ErrSum},
		// too much by a little, just right, and too little by a little
		{hall(gains(ranged(-700, 700), ranged(2, 4)), move(0, 1, 5, 9)), 1, ints(1), 1, api.OK},
		{hall(gains(ranged(-700, 700), ranged(2, 5)), move(0, 1, 5, 9)), 1, ints(1), 0, api.ErrSum},
		{hall(gains(ranged(-700, 700), ranged(9, 9)), move(0, 1, 5, 9)), 2, ints(1), 0, api.ErrSum},
		{hall(gains(ranged(-700, 700), ranged(10, 12)), move(0, 1, 5, 9)), 2, ints(1), 1, api.OK},
		{hall(gains(ranged(-4, 4), ranged(-700, 700)), move(0, 1, 5, 9)), 2, ints(0), 1, api.OK},
		{hall(gains(ranged(-14, -12), ranged(-700, 700)), move(0, 1, 5, 9)), 1, ints(0), 3, api.OK},
		// what leads from one to another of them does not count
		{hall(gains(ranged(-1, -1), ranged(-2, -1)), move(0, 1, 5, 9)), 1, ints(0, 1), 2, api.OK},
		{hall(gains(ranged(1, 1), ranged(2, 3)), move(0, 1, 5, 9)), 2, ints(0, 1), 3, api.OK},
		{hall(gains(ranged(3, 5))), 2, ints(0), 3, api.OK},
		{hall(gains(ranged(-5, -3))), 1, ints(0), 3, api.OK},
		{hall(slices.Repeat(gains(ranged(700, 700)), 5)), 2, ints(0, 1, 2, 3, 4), 3500, api.OK},
	} {
		if many, e := box.CheckPart(c.h, c.side, c.stores); many != c.many || e != c.e {
			t.Error(i, many, e)
		}
	}
}

// P6.3: examples of the chapter, and others that have just one proof.
func TestPartOfSome(t *testing.T) {
	if side, stores, e := box.Part(hallH()); side != 0 || len(stores) > 0 || e != api.ErrNone {
		t.Error(side, stores, e)
	}
	mustRefute(t, hallG())
	for i, c := range []struct {
		h      api.BoxHall
		side   int
		stores []int
	}{
		{hall(gains(ranged(1, 5))), 2, ints(0)},
		{hall(gains(ranged(-5, -1))), 1, ints(0)},
		{hall(gains(ranged(-9, 9), ranged(-700, 700), ranged(3, 3))), 2, ints(2)},
		{hall(gains(ranged(-2, 2), ranged(-1, 9)), move(0, 1, 3, 5), move(1, 0, 0, 0)), 2, ints(0)},
	} {
		if side, stores, e := box.Part(c.h); side != c.side || !slices.Equal(stores, c.stores) || e != api.OK {
			t.Error(i, side, stores, e)
		}
	}
}

// P6.3, by the definition.
func TestCheckPart(t *testing.T) {
	is := map[int]int{}
	for _, h := range all() {
		for set := 1; set < 1<<len(h.Gains); set++ {
			for side := 1; side <= 2; side++ {
				want, e := provedBy(h, side, members(set)), api.OK
				if want <= 0 {
					want, e = 0, api.ErrSum
				} else {
					is[side]++
				}
				if many, f := box.CheckPart(h, side, members(set)); many != want || f != e {
					t.Fatal(h, side, members(set), many, f)
				}
			}
		}
	}
	if is[1] < 1000 || is[2] < 1000 {
		t.Error("too few proofs:", is)
	}
}

// P6.3, P6.7: either a truth that agrees is found or a proof, and CheckTruth and
// CheckPart agree.
func TestEither(t *testing.T) {
	found := map[int]int{}
	for _, h := range all() {
		truth, e := box.Truth(h)
		side, stores, f := box.Part(h)
		found[side]++
		if e == api.OK {
			mustTruth(t, h)
			if f != api.ErrNone || side != 0 || len(stores) > 0 || box.CheckTruth(h, truth) != api.OK || isProved(h) {
				t.Fatal(h, truth, side, stores, f)
			}
			continue
		}
		mustRefute(t, h)
		many, g := box.CheckPart(h, side, stores)
		if e != api.ErrBox || g != api.OK || many < 1 {
			t.Fatal(h, e, side, stores, many, g)
		}
	}
	if found[0] < 1000 || found[1] < 400 || found[2] < 400 {
		t.Error("too few of a kind:", found)
	}
}
