package round_test

import (
	"math"
	"slices"
	"testing"

	"pennyfall/api"
	"pennyfall/round"
)

// P7.2: examples of the chapter, and others.
func TestCheckRoundOfSome(t *testing.T) {
	late := changed(pierP(), func(s *api.RoundStop) { s.To = 0 })
	just := pier(5, stop(2, 7), stop(4, 5), stop(7, 2), stop(10, 15))
	for i, c := range []struct {
		p     api.RoundPier
		round []int
		steps []int64
		e     api.Errno
	}{
		{pierP(), ints(2, 1, 0, 3), []int64{7, 5, 2, 15}, api.OK},
		{pierP(), ints(1, 2, 0, 3), []int64{9, 1, 4, 17}, api.OK},
		{pierP(), ints(0, 1, 2, 3), nil, api.ErrRule},
		{pierP(), ints(1, 0, 2, 3), nil, api.ErrLate},
		{pierP(), ints(2, 1, 0, 2), nil, api.ErrArg},
		{pierQ(), ints(2, 1, 0, 3), nil, api.ErrLate},
		// just in time, and one step too late
		{just, ints(2, 1, 0, 3), []int64{7, 5, 2, 15}, api.OK},
		{pier(5, stop(2, 6), stop(4, 5), stop(7, 2), stop(10, 15)), ints(2, 1, 0, 3), nil, api.ErrLate},
		{pier(5, stop(2, 7), stop(4, 4), stop(7, 2), stop(10, 15)), ints(2, 1, 0, 3), nil, api.ErrLate},
		{pier(5, stop(2, 7), stop(4, 5), stop(7, 1), stop(10, 15)), ints(2, 1, 0, 3), nil, api.ErrLate},
		{pier(5, stop(2, 7), stop(4, 5), stop(7, 2), stop(10, 14)), ints(2, 1, 0, 3), nil, api.ErrLate},
		// all on one side
		{pier(0, stop(3, 3), stop(7, 7)), ints(0, 1), []int64{3, 7}, api.OK},
		{pier(0, stop(3, 90), stop(7, 90)), ints(1, 0), nil, api.ErrRule},
		{pier(9, stop(3, 6), stop(7, 2)), ints(1, 0), []int64{6, 2}, api.OK},
		{pier(9, stop(3, 90), stop(7, 90)), ints(0, 1), nil, api.ErrRule},
		{pier(9, stop(3, 6)), ints(0), []int64{6}, api.OK},
		{pier(9, stop(3, 5)), ints(0), nil, api.ErrLate},
		// from one end of the pier to the other one and back, again and again
		{farPier(9000), ints(4, 5, 3, 6, 2, 7, 1, 8, 0, 9), nil, api.ErrLate},
		{farPier(9000), ints(4, 5, 3, 6, 2, 7, 1, 8, 9, 0), []int64{8462, 6463, 4470, 2481, 496, 1488, 3475, 5466, 7461, 7462}, api.OK},
		// not as many as there are stops
		{pierP(), nil, nil, api.ErrEqual},
		{pierP(), ints(2, 1, 0), nil, api.ErrEqual},
		{pierP(), ints(2, 1, 0, 3, 4), nil, api.ErrEqual},
		{pierP(), ints(2, 1, 0, 3, 3), nil, api.ErrEqual},
		{pierP(), ints(-1, -1, -1), nil, api.ErrEqual},
		{pierP(), make([]int, 5000), nil, api.ErrEqual},
		// no stops, or one twice
		{pierP(), ints(2, 1, 0, 4), nil, api.ErrArg},
		{pierP(), ints(-1, 1, 0, 3), nil, api.ErrArg},
		{pierP(), ints(math.MinInt, 1, 0, math.MaxInt), nil, api.ErrArg},
		{pierP(), ints(0, 0, 0, 0), nil, api.ErrArg},
		{pierP(), ints(0, 1, 2, 10), nil, api.ErrArg}, // nor would it be a round
		// a stop is passed
		{pierP(), ints(3, 2, 1, 0), nil, api.ErrRule},
		{pierP(), ints(2, 0, 1, 3), nil, api.ErrRule},
		{late, ints(2, 0, 1, 3), nil, api.ErrRule},
		{late, ints(2, 1, 0, 3), nil, api.ErrLate},
	} {
		if steps, e := round.CheckRound(c.p, c.round); !slices.Equal(steps, c.steps) || e != c.e {
			t.Error(i, steps, e)
		}
	}
}

// checked returns what CheckRound has to return for a list of all stops.
func checked(p api.RoundPier, list []int) ([]int64, api.Errno) {
	switch {
	case !isRound(p, list):
		return nil, api.ErrRule
	case !isInTime(p, list):
		return nil, api.ErrLate
	}
	return stepsOf(p, list), api.OK
}

// P7.2, by the definition: all lists of few stops, all rounds of many.
func TestCheckRound(t *testing.T) {
	found := map[api.Errno]int{}
	for _, p := range all() {
		lists := roundsOf(p)
		if len(p.Stops) <= 5 {
			lists = permutations(len(p.Stops))
		}
		for _, list := range lists {
			want, e := checked(p, list)
			found[e]++
			if steps, f := round.CheckRound(p, list); !slices.Equal(steps, want) || f != e {
				t.Fatal(p, list, steps, f)
			}
		}
	}
	for _, e := range []api.Errno{api.OK, api.ErrRule, api.ErrLate} {
		if found[e] < 1000 {
			t.Error("too few of a kind:", found)
		}
	}
}

// P7.3: examples of the chapter, and others.
func TestShortestOfSome(t *testing.T) {
	for i, c := range []struct {
		p     api.RoundPier
		long  int64
		round []int
		many  int
		e     api.Errno
	}{
		{pierP(), 15, ints(2, 1, 0, 3), 2, api.OK},
		{pierQ(), 0, nil, 0, api.ErrLate},
		{pier(5, stop(4, 1)), 1, ints(0), 1, api.OK},
		{pier(5, stop(4, 0)), 0, nil, 0, api.ErrLate},
		{pier(5, stop(6, 0)), 0, nil, 0, api.ErrLate},
		{pier(0, stop(3, 3), stop(7, 7)), 7, ints(0, 1), 1, api.OK},
		{pier(9, stop(3, 6), stop(7, 2)), 6, ints(1, 0), 1, api.OK},
		// several are as short: the first one of them
		{pier(5, stop(4, 99), stop(6, 99)), 3, ints(0, 1), 2, api.OK},
		{pier(5, stop(4, 2), stop(6, 99)), 3, ints(0, 1), 1, api.OK},
		{pier(5, stop(4, 99), stop(6, 2)), 3, ints(1, 0), 1, api.OK},
		{pier(5, stop(4, 99), stop(6, 3)), 3, ints(0, 1), 2, api.OK},
		{pier(5, stop(3, 99), stop(4, 99), stop(6, 99), stop(7, 99)), 6, ints(1, 0, 2, 3), 6, api.OK},
		{pier(5, stop(3, 99), stop(4, 99), stop(6, 1), stop(7, 99)), 6, ints(2, 3, 1, 0), 3, api.OK},
		// a first one that is not the shortest
		{pier(5, stop(1, 99), stop(6, 99)), 6, ints(1, 0), 2, api.OK},
		{pier(5, stop(1, 4), stop(6, 99)), 9, ints(0, 1), 1, api.OK},
		// at the limits
		{farPier(9000), 1500, ints(4, 3, 2, 1, 0, 5, 6, 7, 8, 9), 250, api.OK},
		{farPier(1500), 1500, ints(4, 3, 2, 1, 0, 5, 6, 7, 8, 9), 2, api.OK},
		{farPier(1499), 0, nil, 0, api.ErrLate},
		{farPier(0), 0, nil, 0, api.ErrLate},
	} {
		if long, e := round.Shortest(c.p); long != c.long || e != c.e {
			t.Error(i, long, e)
		}
		if list, e := round.Round(c.p); !slices.Equal(list, c.round) || e != c.e {
			t.Error(i, list, e)
		}
		if many, e := round.Count(c.p); many != c.many || e != api.OK {
			t.Error(i, many, e)
		}
	}
}

// P7.3, by the definition.
func TestShortest(t *testing.T) {
	some, none := 0, 0
	for _, p := range all() {
		rounds := inTime(p)
		if many := must(t, round.Count, p); many != len(rounds) {
			t.Fatal(p, many, len(rounds))
		}
		long, e := round.Shortest(p)
		list, f := round.Round(p)
		if len(rounds) == 0 {
			none++
			if long != 0 || len(list) > 0 || e != api.ErrLate || f != api.ErrLate {
				t.Fatal(p, long, list, e, f)
			}
			continue
		}
		some++
		want := shortestOf(p, rounds)
		if long != lengthOf(p, want) || !slices.Equal(list, want) || e != api.OK || f != api.OK {
			t.Fatal(p, want, long, list, e, f)
		}
	}
	if some < 1000 || none < 500 {
		t.Error("too few of a kind:", some, none)
	}
}

// P7.4: examples of the chapter, and others.
func TestWithinOfSome(t *testing.T) {
	for i, c := range []struct {
		p      api.RoundPier
		stop   int
		lo, hi int64
		e      api.Errno
	}{
		{pierP(), 0, 7, 9, api.OK},
		{pierP(), 1, 1, 5, api.OK},
		{pierP(), 2, 2, 4, api.OK},
		{pierP(), 3, 15, 17, api.OK},
		{pierP(), 4, 0, 0, api.ErrArg},
		{pierP(), -1, 0, 0, api.ErrArg},
		{pierP(), math.MaxInt, 0, 0, api.ErrArg},
		{pierP(), math.MinInt, 0, 0, api.ErrArg},
		{pierQ(), 1, 0, 0, api.ErrLate},
		{pierQ(), 4, 0, 0, api.ErrArg},
		{pier(5, stop(6, 1)), 0, 1, 1, api.OK},
		{pier(5, stop(6, 0)), 0, 0, 0, api.ErrLate},
		{pier(5, stop(6, 0)), 1, 0, 0, api.ErrArg},
		{pier(5, stop(4, 99), stop(6, 99)), 0, 1, 3, api.OK},
		{pier(5, stop(4, 99), stop(6, 2)), 0, 3, 3, api.OK},
		{pier(5, stop(4, 2), stop(6, 2)), 0, 0, 0, api.ErrLate},
		{farPier(9000), 4, 496, 1496, api.OK},
	} {
		if r, e := round.Within(c.p, c.stop); r.Lo != c.lo || r.Hi != c.hi || e != c.e {
			t.Error(i, r, e)
		}
	}
}

// P7.4 and P7.10, by the definition.
func TestWithin(t *testing.T) {
	wide := 0
	for _, p := range all() {
		var all [][]int64
		for _, list := range inTime(p) {
			all = append(all, stepsOf(p, list))
		}
		found, errors := spans(p)
		for i, r := range found {
			if len(all) == 0 {
				if (r != api.Range{}) || errors[i] != api.ErrLate {
					t.Fatal(p, i, r, errors[i])
				}
				continue
			}
			lo, hi := all[0][i], all[0][i]
			for _, steps := range all {
				lo, hi = min(lo, steps[i]), max(hi, steps[i])
			}
			if r.Lo != lo || r.Hi != hi || errors[i] != api.OK {
				t.Fatal(p, i, r, errors[i], lo, hi)
			}
			if lo < hi {
				wide++
			}
		}
	}
	if wide < 1000 {
		t.Error("too few that can be at several steps:", wide)
	}
}

// P7.5: examples of the chapter, and others.
func TestDelayOfSome(t *testing.T) {
	for i, c := range []struct {
		p     api.RoundPier
		delay int64
	}{
		{pierP(), -2},
		{pierQ(), 1},
		{pier(5, stop(6, 1)), 0},
		{pier(5, stop(6, 0)), 1},
		{pier(5, stop(6, 9000)), -8999},
		{pier(0, stop(1000, 0)), 1000},
		{pier(5, stop(4, 99), stop(6, 2)), -1},
		{farPier(0), 1500},
		{farPier(9000), -7500},
	} {
		if delay, e := round.Delay(c.p); delay != c.delay || e != api.OK {
			t.Error(i, delay, e)
		}
	}
}

// P7.5 and P7.11, by the definition.
func TestDelay(t *testing.T) {
	found := [3]int{}
	for _, p := range all() {
		delay := must(t, round.Delay, p)
		just := 0
		for _, list := range roundsOf(p) {
			late := lateBy(p, stepsOf(p, list))
			if late < delay {
				t.Fatal(p, delay, list, late)
			}
			if late == delay {
				just++
			}
		}
		if just == 0 || (delay <= 0) != (len(inTime(p)) > 0) || (delay <= 0) != (must(t, round.Count, p) > 0) {
			t.Fatal(p, delay, just)
		}
		found[1+min(max(delay, -1), 1)]++
	}
	if found[0] < 500 || found[1] < 100 || found[2] < 500 {
		t.Error("too few of a kind:", found)
	}
}
