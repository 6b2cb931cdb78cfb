package drum_test

import (
	"testing"

	"pennyfall/api"
	"pennyfall/drum"
)

// fed returns a feed with so many places, of which just these are 1.
func fed(places int, odd ...int) []int {
	out := zeros(places)
	for _, k := range odd {
		out[k-1] = 1
	}
	return out
}

// P11.7: examples of the chapter, and others.
func TestRoundOfSome(t *testing.T) {
	for i, x := range []struct {
		d                api.DrumShift
		beginning, round int
		e                api.Errno
	}{
		{drumD(), 0, 7, api.OK},
		{drumE(), 1, 1, api.OK},
		{drumA(), 0, 1, api.OK},
		{api.DrumShift{}, 0, 1, api.OK},
		{shift(ints(0), ints(1)), 1, 1, api.OK},
		{shift(ints(0), ints(0)), 0, 1, api.OK},
		{shift(ints(1), ints(0)), 0, 1, api.OK},
		{shift(ints(0, 1), ints(1, 0)), 0, 2, api.OK},
		{shift(ints(0, 1), ints(1, 1)), 0, 1, api.OK},
		{shift(ints(1, 1), ints(0, 1)), 0, 3, api.OK},
		{shift(ints(0, 1, 0), ints(0, 1, 0)), 0, 2, api.OK},
		{shift(ints(0, 1, 0), ints(1, 1, 0)), 1, 2, api.OK},
		{shift(ints(0, 0, 0), ints(0, 0, 1)), 3, 1, api.OK},
		{shift(ints(0, 0, 0), ints(0, 1, 0)), 2, 1, api.OK},
		{shift(ints(0, 0, 0), ints(1, 0, 0)), 1, 1, api.OK},
		{shift(zeros(12), late(12)), 12, 1, api.OK},
		{shift(ones(12), late(12)), 0, 13, api.OK},
		{shift(ones(12), zeros(12)), 0, 1, api.OK},
		{shift(late(12), late(12)), 0, 12, api.OK},
		{shift(late(12), fed(12, 3, 6, 9, 12)), 0, 3, api.OK},
		{shift(fed(12, 1, 4, 6, 12), late(12)), 0, 4095, api.OK}, // the longest that there is
		{shift(fed(12, 2, 11), late(12)), 1, 2047, api.OK},
		{shift(fed(12, 2, 11), fed(12, 1, 12)), 0, 2047, api.OK},
		{shift(fed(12, 1, 2), fed(12, 1, 11)), 10, 3, api.OK},
		// invalid, and the first error before the others
		{shift(zeros(13), zeros(13)), 0, 0, api.ErrMany},
		{shift(zeros(40), late(40)), 0, 0, api.ErrMany},
		{shift(zeros(41), zeros(41)), 0, 0, api.ErrMany},
		{shift(zeros(13), zeros(12)), 0, 0, api.ErrEqual},
		{shift(zeros(13), append(zeros(12), 2)), 0, 0, api.ErrRange},
	} {
		if beginning, round, e := drum.Round(x.d); beginning != x.beginning || round != x.round || e != x.e {
			t.Error(i, beginning, round, e)
		}
	}
}

// checkRound holds P11.15 against the beginning and the round of a drum, and returns them.
func checkRound(t *testing.T, d api.DrumShift) (int, int) {
	t.Helper()
	beginning, round, e := drum.Round(d)
	places := len(d.Feed)
	if e != api.OK || beginning < 0 || round < 1 || beginning+round > 1<<places {
		t.Fatal(d, beginning, round, e)
	}
	if places > 0 && d.Feed[places-1] == 1 && beginning != 0 {
		t.Fatal(d, beginning, round)
	}
	still := drum.Makes(d, zeros(places)) == api.OK
	if still && (beginning != 0 || round != 1) {
		t.Fatal(d, beginning, round)
	}
	return beginning, round
}

// P11.7 and P11.15, by the definition: all drums with few places.
func TestRound(t *testing.T) {
	for _, d := range drumsUpTo(6) {
		most := 1 << len(d.Feed)
		b, r := turned(playsOf(d, 3*most+len(d.Feed)), most)
		if beginning, round := checkRound(t, d); beginning != b || round != r {
			t.Fatal(d, beginning, round, b, r)
		}
	}
}

// states returns the states of a drum, as numbers, until one comes again, and which one
// of them it is.
func states(d api.DrumShift) ([]int, int) {
	feed, now := 0, 0
	for k, n := range d.Feed {
		feed |= n << k
		now = now<<1 | d.First[k]
	}
	was := map[int]int{}
	var out []int
	for {
		if at, ok := was[now]; ok {
			return out, at
		}
		was[now] = len(out)
		out = append(out, now)
		next := now << 1
		for both := now & feed; both > 0; both &= both - 1 {
			next ^= 1
		}
		now = next & (1<<len(d.Feed) - 1)
	}
}

// P11.7 and P11.15: drums up to the limit, by their states.
func TestRoundOfLong(t *testing.T) {
	late, long := 0, 0
	for _, d := range longDrums(api.MaxDrumTurn) {
		all, at := states(d)
		beginning, round := checkRound(t, d)
		if beginning != at || round != len(all)-at {
			t.Fatal(d, beginning, round, at, len(all))
		}
		if beginning > 0 {
			late++
		}
		if round > 100 {
			long++
		}
	}
	if min(late, long) < 200 {
		t.Error("too few of a kind:", late, long)
	}
}
