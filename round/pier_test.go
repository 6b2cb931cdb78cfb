package round_test

import (
	"math"
	"testing"

	"pennyfall/api"
	"pennyfall/round"
)

// errorsOf returns the errors of all functions but CheckPier; the other arguments
// are not valid, either.
func errorsOf(p api.RoundPier) []api.Errno {
	_, checked := round.CheckRound(p, ints(-1))
	_, shortest := round.Shortest(p)
	_, first := round.Round(p)
	_, count := round.Count(p)
	_, within := round.Within(p, -1)
	_, delay := round.Delay(p)
	_, value := round.CheckBounds(p, nil)
	_, bounds := round.Bounds(p)
	_, clash := round.Clash(p)
	return []api.Errno{
		checked, shortest, first, count, within, delay, value, bounds,
		round.CheckClash(p, ints(-1)), clash,
	}
}

// P7.1, and that all functions return its errors before all others.
func TestCheckPier(t *testing.T) {
	ten := farPier(9000).Stops
	for i, c := range []struct {
		p api.RoundPier
		e api.Errno
	}{
		{pierP(), api.OK},
		{pierQ(), api.OK},
		{pier(0, stop(1, 0)), api.OK},
		{pier(1000, stop(0, 9000)), api.OK},
		{pier(0, stop(1000, 0)), api.OK},
		{pier(1000, stop(999, 0)), api.OK},
		{pier(500, ten...), api.OK},
		{pier(5, ten...), api.OK},
		// too few or too many stops
		{pier(0), api.ErrMany},
		{pier(500, append(ten, stop(1000, 0))...), api.ErrMany},
		{pier(500, make([]api.RoundStop, 11)...), api.ErrMany},
		{pier(500, make([]api.RoundStop, 5000)...), api.ErrMany},
		// Begin
		{pier(-1, stop(1, 0)), api.ErrRange},
		{pier(1001, stop(1, 0)), api.ErrRange},
		{pier(math.MinInt64, stop(1, 0)), api.ErrRange},
		{pier(math.MaxInt64, stop(1, 0)), api.ErrRange},
		// places
		{pier(5, stop(-1, 0)), api.ErrRange},
		{pier(5, stop(1001, 0)), api.ErrRange},
		{pier(5, stop(1, 0), stop(2, 0), stop(1001, 0)), api.ErrRange},
		{pier(5, stop(math.MinInt64, 0), stop(math.MaxInt64, 0)), api.ErrRange},
		// steps
		{pier(5, stop(1, -1)), api.ErrRange},
		{pier(5, stop(1, 9001)), api.ErrRange},
		{pier(5, stop(1, 0), stop(2, 0), stop(3, -1)), api.ErrRange},
		{pier(5, stop(1, math.MaxInt64), stop(2, math.MinInt64)), api.ErrRange},
		// in which order
		{pier(5, stop(1, 0), stop(1, 0)), api.ErrRule},
		{pier(5, stop(2, 0), stop(1, 0)), api.ErrRule},
		{pier(5, stop(1, 0), stop(8, 0), stop(7, 0)), api.ErrRule},
		{pier(5, stop(7, 0), stop(4, 0)), api.ErrRule},
		{pier(5, stop(0, 0), stop(0, 0)), api.ErrRule},
		// at Begin
		{pier(5, stop(5, 0)), api.ErrRule},
		{pier(0, stop(0, 0)), api.ErrRule},
		{pier(5, stop(1, 0), stop(5, 0), stop(7, 0)), api.ErrRule},
		{pier(1000, stop(1, 0), stop(1000, 0)), api.ErrRule},
		// the first error before the second one, and this before the last one
		{pier(-1), api.ErrMany},
		{pier(0, make([]api.RoundStop, 11)...), api.ErrMany},
		{pier(1001, stop(2, 0), stop(2, 0)), api.ErrRange},
		{pier(5, stop(2, 0), stop(1, 0), stop(1001, 0)), api.ErrRange},
		{pier(5, stop(5, 0), stop(7, -1)), api.ErrRange},
	} {
		if e := round.CheckPier(c.p); e != c.e {
			t.Error(i, e)
		}
		for n, e := range errorsOf(c.p) {
			if c.e != api.OK && e != c.e {
				t.Error(i, n, e)
			}
		}
	}
}
