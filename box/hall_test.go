package box_test

import (
	"math"
	"slices"
	"testing"

	"pennyfall/api"
	"pennyfall/box"
)

// errorsOf returns the errors of all functions but CheckHall; the other arguments
// are not valid, either.
func errorsOf(h api.BoxHall) []api.Errno {
	_, truth := box.Truth(h)
	_, proved := box.CheckPart(h, 3, nil)
	_, _, part := box.Part(h)
	_, span := box.Span(h, -1)
	_, gain := box.Gain(h, -1)
	_, wrong := box.Wrong(h)
	_, kind := box.Kind(h, -1)
	return []api.Errno{
		box.CheckTruth(h, make([]int64, 9)), truth, proved, part, span, gain,
		box.CheckWrong(h, ints(-1)), wrong, kind,
	}
}

// P6.1, and that all functions return its errors before all others.
func TestCheckHall(t *testing.T) {
	wide, none := ranged(-700, 700), ranged(0, 0)
	one, two := gains(none), gains(none, none)
	five := slices.Repeat(gains(wide), 5)
	for i, c := range []struct {
		h api.BoxHall
		e api.Errno
	}{
		{hallH(), api.OK},
		{hallG(), api.OK},
		{hall(one), api.OK},
		{hall(gains(wide)), api.OK},
		{hall(five), api.OK},
		{hall(five, slices.Repeat([]api.BoxMove{move(4, 0, 0, 100)}, 7)...), api.OK},
		{hall(two, move(0, 1, 0, 0), move(1, 0, 100, 100), move(0, 1, 0, 100)), api.OK},
		{hall(gains(ranged(700, 700), ranged(-700, -700))), api.OK},
		// lists that are too short or too long
		{hall(nil), api.ErrMany},
		{hall(nil, move(0, 1, 0, 0)), api.ErrMany},
		{hall(slices.Repeat(one, 6)), api.ErrMany},
		{hall(two, slices.Repeat([]api.BoxMove{move(0, 1, 0, 0)}, 8)...), api.ErrMany},
		{hall(slices.Repeat(one, 1000), slices.Repeat([]api.BoxMove{move(0, 1, 0, 0)}, 1000)...), api.ErrMany},
		// counts
		{hall(two, move(0, 1, 1, 0)), api.ErrRange},
		{hall(two, move(0, 1, -1, 0)), api.ErrRange},
		{hall(two, move(0, 1, 0, 101)), api.ErrRange},
		{hall(two, move(0, 1, -2, -1)), api.ErrRange},
		{hall(two, move(0, 1, 101, 101)), api.ErrRange},
		{hall(two, move(0, 1, math.MinInt64, math.MaxInt64)), api.ErrRange},
		{hall(two, move(0, 1, 0, 1), move(0, 1, 0, 1), move(1, 0, 3, 2)), api.ErrRange},
		// gains
		{hall(gains(ranged(1, 0))), api.ErrRange},
		{hall(gains(ranged(-701, 0))), api.ErrRange},
		{hall(gains(ranged(0, 701))), api.ErrRange},
		{hall(gains(ranged(701, 701))), api.ErrRange},
		{hall(gains(ranged(-701, -701))), api.ErrRange},
		{hall(gains(none, ranged(math.MaxInt64, math.MinInt64))), api.ErrRange},
		{hall(gains(none, none, none, none, ranged(0, -1))), api.ErrRange},
		// stores
		{hall(two, move(0, 2, 0, 0)), api.ErrArg},
		{hall(two, move(2, 0, 0, 0)), api.ErrArg},
		{hall(two, move(-1, 0, 0, 0)), api.ErrArg},
		{hall(two, move(0, -1, 0, 0)), api.ErrArg},
		{hall(two, move(1, 1, 0, 0)), api.ErrArg},
		{hall(two, move(7, 7, 0, 0)), api.ErrArg},
		{hall(one, move(0, 1, 0, 0)), api.ErrArg},
		{hall(five, move(0, 4, 0, 0), move(4, 5, 0, 0)), api.ErrArg},
		{hall(two, move(math.MinInt, math.MaxInt, 0, 0)), api.ErrArg},
		// the first error before the second one, and this before the last one
		{hall(slices.Repeat(gains(ranged(1, 0)), 6), move(0, 0, 1, 0)), api.ErrMany},
		{hall(two, slices.Repeat([]api.BoxMove{move(0, 0, 1, 0)}, 8)...), api.ErrMany},
		{hall(two, move(0, 0, 0, 0), move(0, 1, 1, 0)), api.ErrRange},
		{hall(gains(none, ranged(1, 0)), move(0, 0, 0, 0)), api.ErrRange},
	} {
		if e := box.CheckHall(c.h); e != c.e {
			t.Error(i, e)
		}
		for n, e := range errorsOf(c.h) {
			if c.e != api.OK && e != c.e {
				t.Error(i, n, e)
			}
		}
	}
}
