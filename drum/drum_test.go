package drum_test

import (
	"math"
	"slices"
	"testing"

	"pennyfall/api"
	"pennyfall/drum"
)

// errorsOfRow returns the errors of all functions with a row but CheckRow; the other
// arguments are not valid, either, but for the drum of Makes.
func errorsOfRow(row []int) []api.Errno {
	_, places := drum.Places(row)
	_, profile := drum.Profile(row)
	_, shortest := drum.Shortest(row)
	_, count := drum.Count(row)
	_, next := drum.Next(row, -1)
	_, proof := drum.Proof(row)
	return []api.Errno{places, profile, shortest, count, next, proof,
		drum.CheckProof(row, -1, ints(-1)), drum.Makes(drumA(), row)}
}

// P11.1, and that all functions with a row return its errors before all others.
func TestCheckRow(t *testing.T) {
	for i, x := range []struct {
		row []int
		e   api.Errno
	}{
		{rowS(), api.OK},
		{nil, api.OK},
		{ints(0), api.OK},
		{ints(1), api.OK},
		{zeros(40), api.OK},
		{ones(40), api.OK},
		{late(40), api.OK},
		{zeros(41), api.ErrMany},
		{ones(41), api.ErrMany},
		{make([]int, 5000), api.ErrMany},
		{ints(2), api.ErrRange},
		{ints(-1), api.ErrRange},
		{ints(0, 1, 2), api.ErrRange},
		{ints(2, 0, 1), api.ErrRange},
		{append(zeros(39), 2), api.ErrRange},
		{append(zeros(39), -1), api.ErrRange},
		{ints(math.MinInt), api.ErrRange},
		{ints(1, math.MaxInt), api.ErrRange},
		{append(zeros(40), 2), api.ErrMany}, // the first error before the others
	} {
		if e := drum.CheckRow(x.row); e != x.e {
			t.Error(i, e)
		}
		for n, e := range errorsOfRow(x.row) {
			if x.e != api.OK && e != x.e {
				t.Error(i, n, e)
			}
		}
	}
}

// errorsOfDrum returns the errors of all functions with a drum but CheckDrum; the other
// arguments are not valid, either.
func errorsOfDrum(d api.DrumShift) []api.Errno {
	_, run := drum.Run(d, -1)
	_, _, round := drum.Round(d)
	_, one := drum.Together(d, shift(ints(2), ints(2)))
	_, other := drum.Together(drumD(), d)
	return []api.Errno{run, drum.Makes(d, ints(2)), round, one, other}
}

// P11.1, and that all functions with a drum return its errors before all others.
func TestCheckDrum(t *testing.T) {
	for i, x := range []struct {
		d api.DrumShift
		e api.Errno
	}{
		{drumD(), api.OK},
		{drumA(), api.OK},
		{drumE(), api.OK},
		{api.DrumShift{}, api.OK},
		{shift(zeros(1), zeros(1)), api.OK},
		{shift(zeros(40), zeros(40)), api.OK},
		{shift(ones(40), ones(40)), api.OK},
		// too many numbers
		{shift(zeros(41), zeros(41)), api.ErrMany},
		{shift(zeros(41), zeros(40)), api.ErrMany},
		{shift(zeros(40), zeros(41)), api.ErrMany},
		{shift(nil, zeros(41)), api.ErrMany},
		{shift(zeros(41), nil), api.ErrMany},
		{shift(make([]int, 5000), make([]int, 5000)), api.ErrMany},
		// not as many
		{shift(zeros(40), zeros(39)), api.ErrEqual},
		{shift(zeros(39), zeros(40)), api.ErrEqual},
		{shift(ints(0, 1), ints(1)), api.ErrEqual},
		{shift(ints(1), nil), api.ErrEqual},
		{shift(nil, ints(1)), api.ErrEqual},
		// a number
		{shift(ints(2), ints(1)), api.ErrRange},
		{shift(ints(1), ints(2)), api.ErrRange},
		{shift(ints(-1), ints(0)), api.ErrRange},
		{shift(ints(0), ints(-1)), api.ErrRange},
		{shift(ints(0, 1, 2), ints(0, 0, 1)), api.ErrRange},
		{shift(ints(0, 1, 1), ints(0, 0, 2)), api.ErrRange},
		{shift(ints(math.MinInt), ints(1)), api.ErrRange},
		{shift(ints(1), ints(math.MaxInt)), api.ErrRange},
		{shift(append(zeros(39), 2), zeros(40)), api.ErrRange},
		{shift(zeros(40), append(zeros(39), 2)), api.ErrRange},
		// the first error before the others
		{shift(ints(2), append(zeros(40), 2)), api.ErrMany},
		{shift(append(zeros(40), 2), ints(2)), api.ErrMany},
		{shift(ints(2), ints(2, 2)), api.ErrEqual},
		{shift(ints(-1), nil), api.ErrEqual},
	} {
		if e := drum.CheckDrum(x.d); e != x.e {
			t.Error(i, e)
		}
		for n, e := range errorsOfDrum(x.d) {
			if x.e != api.OK && e != x.e {
				t.Error(i, n, e)
			}
		}
	}
}

// P11.1: rows, and drums, with up to three numbers of all about the limits.
func TestCheckOfAll(t *testing.T) {
	lists := [][]int{nil}
	for i := 0; i < len(lists) && len(lists[i]) < 3; i++ {
		for number := -1; number <= 2; number++ {
			lists = append(lists, append(slices.Clone(lists[i]), number))
		}
	}
	isWrong := func(list []int) bool { return slices.Contains(list, -1) || slices.Contains(list, 2) }
	for _, feed := range lists {
		if e := drum.CheckRow(feed); (e == api.ErrRange) != isWrong(feed) || (e == api.OK) == isWrong(feed) {
			t.Fatal(feed, e)
		}
		for _, first := range lists {
			want := api.OK
			switch {
			case len(feed) != len(first):
				want = api.ErrEqual
			case isWrong(feed) || isWrong(first):
				want = api.ErrRange
			}
			if e := drum.CheckDrum(shift(feed, first)); e != want {
				t.Fatal(feed, first, e, want)
			}
		}
	}
}

// P11.2: examples of the chapter, and others.
func TestRunOfSome(t *testing.T) {
	for i, x := range []struct {
		d     api.DrumShift
		many  int
		plays []int
		e     api.Errno
	}{
		{drumD(), 10, ints(0, 0, 1, 0, 1, 1, 1, 0, 0, 1), api.OK},
		{drumD(), 3, ints(0, 0, 1), api.OK},
		{drumD(), 2, ints(0, 0), api.OK},
		{drumD(), 0, nil, api.OK},
		{drumD(), 101, nil, api.ErrArg},
		{drumD(), -1, nil, api.ErrArg},
		{drumD(), math.MinInt, nil, api.ErrArg},
		{drumD(), math.MaxInt, nil, api.ErrArg},
		{drumA(), 5, ones(5), api.OK},
		{drumA(), 100, ones(100), api.OK},
		{drumE(), 5, ints(0, 1, 1, 1, 1), api.OK},
		{api.DrumShift{}, 100, zeros(100), api.OK},
		{api.DrumShift{}, 0, nil, api.OK},
		{shift(ints(0, 1), ints(1, 0)), 6, ints(1, 0, 1, 0, 1, 0), api.OK},
		{shift(ints(1, 0, 0), ints(1, 1, 0)), 6, ints(1, 1, 0, 0, 0, 0), api.OK},
		{shift(ints(1, 1), ints(1, 1)), 7, ints(1, 1, 0, 1, 1, 0, 1), api.OK},
		{shift(ints(1, 1, 1, 1), ints(1, 1, 1, 1)), 7, ints(1, 1, 1, 1, 0, 1, 1), api.OK},
		{shift(late(40), late(40)), 100, slices.Concat(late(40), late(40), zeros(20)), api.OK},
		{shift(zeros(40), ones(40)), 40, ones(40), api.OK},
		{shift(zeros(40), ones(40)), 42, append(ones(40), 0, 0), api.OK},
		{shift(zeros(40), ones(40)), 39, ones(39), api.OK},
	} {
		if plays, e := drum.Run(x.d, x.many); !slices.Equal(plays, x.plays) || e != x.e {
			t.Error(i, plays, e)
		}
	}
}

// P11.2, by the definition: all small drums, and long ones.
func TestRun(t *testing.T) {
	for i, d := range append(drumsUpTo(5), longDrums(api.MaxDrumPlaces)...) {
		want := playsOf(d, max(api.MaxDrumPlays, len(d.First)))
		for many := i % 3; many <= api.MaxDrumPlays; many += 1 + i%5 {
			if plays := told(t, drum.Run, d, many); !slices.Equal(plays, want[:many]) {
				t.Fatal(d, many, plays)
			}
		}
		if plays := told(t, drum.Run, d, api.MaxDrumPlays); !slices.Equal(plays, want[:api.MaxDrumPlays]) {
			t.Fatal(d, plays)
		}
	}
}

// P11.2: examples of the chapter, and others.
func TestMakesOfSome(t *testing.T) {
	for i, x := range []struct {
		d   api.DrumShift
		row []int
		e   api.Errno
	}{
		{drumD(), rowS(), api.OK},
		{drumA(), rowS(), api.ErrDrum},
		{drumD(), nil, api.OK},
		{drumD(), ints(0), api.OK}, // fewer plays than places
		{drumD(), ints(0, 0), api.OK},
		{drumD(), ints(0, 1), api.ErrDrum},
		{drumD(), ints(1), api.ErrDrum},
		{drumD(), append(rowS(), 0, 0, 1), api.OK},
		{drumD(), append(rowS(), 0, 0, 0), api.ErrDrum},
		{api.DrumShift{}, nil, api.OK},
		{api.DrumShift{}, zeros(40), api.OK},
		{api.DrumShift{}, late(40), api.ErrDrum},
		{shift(zeros(40), late(40)), late(40), api.OK},
		{shift(zeros(40), late(40)), zeros(39), api.OK},
		{shift(zeros(40), late(40)), zeros(40), api.ErrDrum},
		// invalid
		{drumD(), zeros(41), api.ErrMany},
		{drumD(), ints(0, 0, 2), api.ErrRange},
		{shift(ints(1), nil), zeros(41), api.ErrEqual},
		{shift(ints(2), ints(1)), zeros(41), api.ErrRange},
		{shift(zeros(41), ints(1)), ints(2), api.ErrMany},
	} {
		if e := drum.Makes(x.d, x.row); e != x.e {
			t.Error(i, e)
		}
	}
}

// checkMakes holds whether a drum makes a row against the definition.
func checkMakes(t *testing.T, d api.DrumShift, row []int) api.Errno {
	t.Helper()
	want := api.ErrDrum
	if makes(d, row) {
		want = api.OK
	}
	if e := drum.Makes(d, row); e != want {
		t.Fatal(d, row, e, want)
	}
	return want
}

// P11.2, by the definition: all small drums with all short rows, and long ones with what
// they play, and with what they do not play.
func TestMakes(t *testing.T) {
	rows := rowsUpTo(6)
	for _, d := range drumsUpTo(4) {
		for _, row := range rows {
			checkMakes(t, d, row)
		}
	}
	c, found := chance{at: 3}, map[api.Errno]int{}
	for _, d := range longDrums(api.MaxDrumPlaces) {
		for range 10 {
			row := playsOf(d, max(c.from(0, api.MaxDrumWins), len(d.First)))
			row = row[:c.from(0, len(row))]
			found[checkMakes(t, d, row)]++
			if len(row) > 0 {
				row[c.below(len(row))] ^= 1
				found[checkMakes(t, d, row)]++
			}
		}
	}
	if min(found[api.OK], found[api.ErrDrum]) < 10000 {
		t.Error("too few of a kind:", found)
	}
}
