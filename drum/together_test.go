package drum_test

import (
	"slices"
	"testing"

	"pennyfall/api"
	"pennyfall/drum"
)

// P11.8: examples of the chapter, and others.
func TestTogetherOfSome(t *testing.T) {
	none := api.DrumShift{}
	for i, x := range []struct {
		a, b, both api.DrumShift
		e          api.Errno
	}{
		{drumA(), drumD(), shift(ints(1, 1, 0, 1), ints(1, 1, 0, 1)), api.OK},
		{drumD(), drumA(), shift(ints(1, 1, 0, 1), ints(1, 1, 0, 1)), api.OK},
		{none, none, none, api.OK},
		{none, drumD(), drumD(), api.OK},
		{drumD(), none, drumD(), api.OK},
		{drumA(), drumA(), shift(ints(0, 1), ints(0, 0)), api.OK},
		{drumA(), drumE(), shift(ints(0, 1, 0), ints(1, 0, 0)), api.OK},
		{drumD(), drumD(), shift(ints(0, 0, 0, 1, 0, 1), zeros(6)), api.OK},
		{shift(zeros(2), ints(0, 1)), shift(zeros(3), ints(1, 1, 1)), shift(zeros(5), ints(1, 0, 1, 0, 0)), api.OK},
		{shift(zeros(20), ones(20)), shift(late(20), ones(20)), shift(append(late(20), zeros(20)...), append(zeros(20), ones(20)...)), api.OK},
		{shift(zeros(40), late(40)), none, shift(zeros(40), late(40)), api.OK},
		{none, shift(ones(40), ones(40)), shift(ones(40), ones(40)), api.OK},
		{shift(late(39), late(39)), drumA(), shift(slices.Concat(ints(1), zeros(37), ints(1, 1)), append(ones(38), 0, 1)), api.OK},
		// too many places
		{shift(zeros(40), zeros(40)), drumA(), none, api.ErrMany},
		{drumA(), shift(zeros(40), zeros(40)), none, api.ErrMany},
		{shift(zeros(20), zeros(20)), shift(zeros(21), zeros(21)), none, api.ErrMany},
		{shift(zeros(40), zeros(40)), shift(zeros(40), zeros(40)), none, api.ErrMany},
		// invalid, and the first error before the others
		{shift(ints(2), ints(1)), drumD(), none, api.ErrRange},
		{drumD(), shift(ints(2), ints(1)), none, api.ErrRange},
		{shift(ints(2), ints(1)), shift(ints(1), nil), none, api.ErrRange},
		{shift(ints(1), nil), shift(ints(2), ints(1)), none, api.ErrEqual},
		{shift(ints(1), nil), shift(zeros(41), nil), none, api.ErrEqual},
		{shift(zeros(40), zeros(40)), shift(ints(2), ints(1)), none, api.ErrRange},
		{shift(zeros(40), zeros(40)), shift(ints(1), ints(1, 1)), none, api.ErrEqual},
	} {
		if both, e := drum.Together(x.a, x.b); !equalDrums(both, x.both) || e != x.e {
			t.Error(i, both, e)
		}
	}
}

// together returns both drums together, by the definition.
func together(a, b api.DrumShift) api.DrumShift {
	places := len(a.Feed) + len(b.Feed)
	one, other := append(ints(1), a.Feed...), append(ints(1), b.Feed...)
	list := zeros(places + 1)
	for i, n := range one {
		for j, m := range other {
			list[i+j] = (list[i+j] + n*m) % 2
		}
	}
	return shift(list[1:], sum(playsOf(a, places), playsOf(b, places)))
}

// checkTogether holds both together against the definition, and P11.13: all plays of both
// together are 1 just where one of both is, and not both.
func checkTogether(t *testing.T, a, b api.DrumShift) {
	t.Helper()
	both, e := drum.Together(a, b)
	if e != api.OK || !equalDrums(both, together(a, b)) {
		t.Fatal(a, b, both, e)
	}
	const many = api.MaxDrumPlays
	if plays := told(t, drum.Run, both, many); !slices.Equal(plays, sum(playsOf(a, many), playsOf(b, many))) {
		t.Fatal(a, b, both, plays)
	}
}

// P11.8 and P11.13, by the definition: all drums with few places, and long ones.
func TestTogether(t *testing.T) {
	all := drumsUpTo(3)
	for _, a := range all {
		for _, b := range all {
			checkTogether(t, a, b)
		}
	}
	c := chance{at: 6}
	for _, a := range longDrums(api.MaxDrumPlaces) {
		left := api.MaxDrumPlaces - len(a.Feed)
		checkTogether(t, a, c.drum(left))
		checkTogether(t, c.drum(c.from(0, left)), a)
		if both, e := drum.Together(a, c.drum(left+1)); left < api.MaxDrumPlaces && (e != api.ErrMany || !isZeroDrum(both)) {
			t.Fatal(a, both, e)
		}
	}
}
