package season_test

import (
	"math"
	"slices"
	"testing"

	"pennyfall/api"
	"pennyfall/season"
)

// one returns a season of one machine whose entries have no gap, with the kind and the
// amount of each.
func one(machine int, kinds ...int) api.Season {
	var out api.Season
	for i := 0; i < len(kinds); i += 2 {
		out.Entries = append(out.Entries, entry(machine, i/2+1, kinds[i], kinds[i+1]))
	}
	return out
}

// P12.5: examples of the chapter, and others.
func TestReplayOfSome(t *testing.T) {
	for i, x := range []struct {
		s       api.Season
		machine int
		out     api.SeasonState
		e       api.Errno
	}{
		{seasonS(), 0, state(4, 1, 2, 2, 0), api.OK},
		{seasonS(), 2, state(0, 0, 0, 0, 0, 2), api.OK},
		{seasonS(), 1, state(0, 0, 0, 0, 0), api.OK},
		{seasonJ(), 0, state(5, 2, 1, 2, 1), api.OK},
		{seasonT(), 0, state(0, 0, 0, 0, 0), api.OK},
		{api.Season{}, 4, state(0, 0, 0, 0, 0), api.OK},
		{seasonS(), 5, api.SeasonState{}, api.ErrArg},
		{seasonS(), -1, api.SeasonState{}, api.ErrArg},
		{seasonS(), math.MinInt, api.SeasonState{}, api.ErrArg},
		{seasonS(), math.MaxInt, api.SeasonState{}, api.ErrArg},
		// a play
		{one(1, coin, 2, play, 0), 1, state(1, 2, 0, 0, 0), api.OK},
		{one(1, coin, 2, play, 2), 1, state(1, 0, 0, 2, 0), api.OK},
		{one(1, coin, 2, play, 3), 1, state(2, 2, 0, 0, 0, 2), api.OK},
		{one(1, coin, 1, play, 0, play, 0), 1, state(0, 1, 0, 0, 0, 3), api.OK},
		{one(1, play, 0), 1, state(0, 0, 0, 0, 0, 1), api.OK},
		{one(1, play, 0, coin, 100, play, 100), 1, state(99, 0, 0, 100, 0, 1), api.OK},
		{one(1, coin, 2, box, 2, play, 0, play, 1), 1, state(1, 0, 2, 0, 0, 4), api.OK},
		// a box
		{one(1, box, 0), 1, state(0, 0, 0, 0, 0), api.OK},
		{one(1, box, 1), 1, state(0, 0, 0, 0, 0, 1), api.OK},
		{one(1, coin, 3, box, 3), 1, state(3, 0, 3, 0, 0), api.OK},
		{one(1, coin, 3, box, 4), 1, state(3, 3, 0, 0, 0, 2), api.OK},
		{one(1, coin, 3, box, 2, box, 2, box, 1), 1, state(3, 0, 3, 0, 0, 3), api.OK},
		// a plea
		{one(1, plea, 1), 1, state(0, 0, 0, 0, 0, 1), api.OK},
		{one(1, coin, 3, plea, 1), 1, state(3, 3, 0, 0, 0, 2), api.OK}, // not out of what is held
		{one(1, coin, 3, box, 2, plea, 2), 1, state(3, 1, 0, 0, 2), api.OK},
		{one(1, coin, 3, box, 2, plea, 3), 1, state(3, 1, 2, 0, 0, 3), api.OK},
		// what is taken back
		{one(1, coin, 3, back, 1), 1, state(0, 0, 0, 0, 0), api.OK},
		{one(1, coin, 3, play, 1, back, 2), 1, state(3, 3, 0, 0, 0), api.OK},
		{one(1, coin, 3, play, 1, back, 2, back, 2), 1, state(3, 3, 0, 0, 0), api.OK},
		{one(1, coin, 3, back, 1, back, 2), 1, state(0, 0, 0, 0, 0), api.OK}, // it stays taken back
		{one(1, coin, 3, back, 1, back, 2, back, 3), 1, state(0, 0, 0, 0, 0), api.OK},
		{one(1, play, 9, back, 1), 1, state(0, 0, 0, 0, 0), api.OK}, // nor is it refused
		{one(1, coin, 3, box, 3, plea, 3, back, 2), 1, state(3, 3, 0, 0, 0, 3), api.OK},
		// what is not settled
		{book(entry(1, 1, coin, 3), entry(1, 2, play, 1), entry(1, 4, back, 1)), 1, state(2, 2, 0, 1, 0), api.OK},
		{book(entry(1, 2, coin, 3), entry(1, 3, play, 1)), 1, state(0, 0, 0, 0, 0), api.OK},
		{book(entry(1, 1, coin, 3), entry(2, 1, box, 0), entry(2, 2, back, 1)), 1, state(3, 3, 0, 0, 0), api.OK}, // of another machine
		// invalid
		{coins(0, 25), 5, api.SeasonState{}, api.ErrMany},
		{book(entry(0, 1, 9, 1)), 0, api.SeasonState{}, api.ErrArg},
		{book(entry(0, 31, coin, 1)), 5, api.SeasonState{}, api.ErrRange},
		{book(entry(1, 2, coin, 1), entry(1, 1, coin, 1)), 5, api.SeasonState{}, api.ErrRule},
	} {
		if out, e := season.Replay(x.s, x.machine); !equalStates(out, x.out) || e != x.e {
			t.Error(i, out, e)
		}
	}
}

// P12.5: seasons at the limits.
func TestReplayAtLimits(t *testing.T) {
	all := slices.Repeat(ints(coin, 100), 24)
	if out := told(t, season.Replay, one(4, all...), 4); !equalStates(out, state(2400, 2400, 0, 0, 0)) {
		t.Error(out)
	}
	all = slices.Repeat(ints(box, 100), 24)
	refused := told(t, season.Replay, one(4, all...), 4).Refused
	if len(refused) != 24 || refused[0] != 1 || refused[23] != 24 {
		t.Error(refused)
	}
	all[0] = coin
	if out := must(t, season.Takings, one(4, all...)); out != 100 {
		t.Error(out)
	}
}

// P12.5: examples of the chapter, and others.
func TestTakingsOfSome(t *testing.T) {
	each := func(kinds ...int) api.Season {
		var out []api.SeasonEntry
		for _, machine := range machines() {
			out = append(out, one(machine, kinds...).Entries...)
		}
		return book(out...)
	}
	for i, x := range []struct {
		s   api.Season
		out int64
		e   api.Errno
	}{
		{seasonS(), 2, api.OK},
		{seasonJ(), 1, api.OK},
		{seasonT(), 0, api.OK},
		{api.Season{}, 0, api.OK},
		{each(coin, 100, box, 100), 500, api.OK},
		{each(coin, 7, box, 5, plea, 2), 15, api.OK},
		{each(coin, 7, box, 5, plea, 2, back, 3), 25, api.OK},
		{book(entry(1, 1, coin, 3), entry(1, 3, box, 1)), 0, api.OK},
		{coins(0, 24), 0, api.OK},
		// invalid
		{coins(0, 25), 0, api.ErrMany},
		{book(entry(0, 1, 9, 1)), 0, api.ErrArg},
		{book(entry(0, 31, coin, 1)), 0, api.ErrRange},
		{book(entry(1, 2, coin, 1), entry(1, 1, coin, 1)), 0, api.ErrRule},
	} {
		if out, e := season.Takings(x.s); out != x.out || e != x.e {
			t.Error(i, out, e)
		}
	}
}

// P12.5, by the definition: all small seasons, and others.
func TestReplay(t *testing.T) {
	refused, paid, returned, rich := 0, 0, 0, 0
	for _, s := range append(allWith(4), seasons()...) {
		takings := int64(0)
		for _, machine := range machines() {
			out := told(t, season.Replay, s, machine)
			if want := stateOf(s, machine); !equalStates(out, want) {
				t.Fatal(s, machine, out, want)
			}
			takings += out.Boxed
			refused += min(len(out.Refused), 1)
			paid += int(min(out.Paid, 1))
			returned += int(min(out.Returned, 1))
		}
		if out := must(t, season.Takings, s); out != takings {
			t.Fatal(s, out, takings)
		}
		rich += int(min(takings, 1))
	}
	if min(refused, paid, returned, rich) < 200 {
		t.Error("too few of a kind:", refused, paid, returned, rich)
	}
}
