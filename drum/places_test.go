package drum_test

import (
	"math"
	"slices"
	"testing"

	"pennyfall/api"
	"pennyfall/drum"
)

// What all long rows are tested by: equations tell the same of short rows as all drums,
// one by one.
func TestFind(t *testing.T) {
	known := table()
	for _, row := range rowsUpTo(short) {
		want, f := known[name(row)], find(row)
		if f.places != want.places || f.many != want.many || !makes(f.drum, row) || len(f.drum.Feed) != f.places {
			t.Fatal(row, f, want)
		}
	}
}

// P11.3 and P11.4: examples of the chapter, and others.
func TestPlacesOfSome(t *testing.T) {
	for i, x := range []struct {
		row     []int
		places  int
		count   int64
		profile []int
		e       api.Errno
	}{
		{rowS(), 3, 1, ints(0, 0, 0, 3, 3, 3, 3, 3), api.OK},
		{rowS()[:4], 3, 4, ints(0, 0, 0, 3, 3), api.OK},
		{nil, 0, 1, ints(0), api.OK},
		{ints(0), 0, 1, ints(0, 0), api.OK},
		{ints(1), 1, 2, ints(0, 1), api.OK},
		{ints(0, 0, 0), 0, 1, ints(0, 0, 0, 0), api.OK},
		{ints(1, 1), 1, 1, ints(0, 1, 1), api.OK},
		{ints(1, 0), 1, 1, ints(0, 1, 1), api.OK},
		{ints(0, 1), 2, 4, ints(0, 0, 2), api.OK},
		{ints(1, 1, 0), 2, 2, ints(0, 1, 1, 2), api.OK},
		{ints(1, 0, 1), 2, 2, ints(0, 1, 1, 2), api.OK},
		{ints(1, 1, 0, 1), 2, 1, ints(0, 1, 1, 2, 2), api.OK},
		{ints(1, 1, 1, 0), 3, 4, ints(0, 1, 1, 1, 3), api.OK},
		{zeros(40), 0, 1, zeros(41), api.OK},
		{ones(40), 1, 1, append(ints(0), ones(40)...), api.OK},
		{late(40), 40, 1 << 40, append(zeros(40), 40), api.OK},
		{late(39), 39, 1 << 39, append(zeros(39), 39), api.OK},
		{slices.Concat(ones(39), zeros(1)), 39, 1 << 38, slices.Concat(ints(0), ones(39), ints(39)), api.OK},
		{slices.Concat(zeros(19), ones(1), zeros(20)), 20, 1, slices.Concat(zeros(20), slices.Repeat(ints(20), 21)), api.OK},
		{slices.Concat(zeros(20), ones(1), zeros(19)), 21, 4, slices.Concat(zeros(21), slices.Repeat(ints(21), 20)), api.OK},
		{zeros(41), 0, 0, nil, api.ErrMany},
		{ints(0, 2), 0, 0, nil, api.ErrRange},
	} {
		places, e := drum.Places(x.row)
		count, f := drum.Count(x.row)
		profile, g := drum.Profile(x.row)
		shortest, h := drum.Shortest(x.row)
		if places != x.places || e != x.e || count != x.count || f != x.e || !slices.Equal(profile, x.profile) || g != x.e {
			t.Error(i, places, e, count, f, profile, g)
		}
		if h != x.e || h != api.OK && !isZeroDrum(shortest) || h == api.OK && len(shortest.Feed) != x.places {
			t.Error(i, shortest, h)
		}
	}
	if d := must(t, drum.Shortest, rowS()); !equalDrums(d, drumD()) {
		t.Error(d)
	}
}

// checkFound holds what is told of a row against what was found, and P11.10: how many
// drums make it.
func checkFound(t *testing.T, row []int, want found) {
	t.Helper()
	places, count, d := must(t, drum.Places, row), must(t, drum.Count, row), must(t, drum.Shortest, row)
	if places != want.places || count != want.many {
		t.Fatal(row, places, count, want)
	}
	if len(d.Feed) != places || len(d.First) != places || drum.CheckDrum(d) != api.OK || !makes(d, row) {
		t.Fatal(row, d)
	}
	if count == 1 && !equalDrums(d, want.drum) {
		t.Fatal(row, d, want)
	}
	if missing := 2*places - len(row); missing <= 0 && count != 1 || missing > 0 && count != 1<<missing {
		t.Fatal(row, places, count)
	}
}

// P11.3, P11.4 and P11.10, by the definitions: all short rows, and long ones.
func TestPlaces(t *testing.T) {
	known := table()
	for _, row := range rowsUpTo(short) {
		checkFound(t, row, known[name(row)])
	}
	for _, row := range lists(12) {
		checkFound(t, row, find(row))
	}
	only, several := 0, 0
	for _, row := range longRows() {
		want := find(row)
		if want.many == 1 {
			only++
		} else {
			several++
		}
		checkFound(t, row, want)
	}
	if min(only, several) < 1000 {
		t.Error("too few of a kind:", only, several)
	}
}

// P11.3, by the definition: the places of each beginning.
func TestProfile(t *testing.T) {
	for _, row := range append(rowsUpTo(10), longRows()...) {
		profile := must(t, drum.Profile, row)
		if len(profile) != len(row)+1 {
			t.Fatal(row, profile)
		}
		for n, places := range profile {
			if places != find(row[:n]).places {
				t.Fatal(row, n, profile)
			}
		}
		if last := profile[len(row)]; last != must(t, drum.Places, row) {
			t.Fatal(row, profile)
		}
	}
}

// P11.5: examples of the chapter, and others.
func TestNextOfSome(t *testing.T) {
	for i, x := range []struct {
		row  []int
		many int
		next []int
		e    api.Errno
	}{
		{rowS(), 3, ints(0, 0, 1), api.OK},
		{rowS(), 0, nil, api.OK},
		{rowS()[:6], 4, ints(1, 0, 0, 1), api.OK},
		{rowS()[:5], 1, nil, api.ErrDrum},
		{rowS()[:4], 1, nil, api.ErrDrum},
		{rowS()[:4], 0, nil, api.ErrDrum},
		{rowS()[:3], 1, nil, api.ErrDrum},
		{rowS()[:2], 2, zeros(2), api.OK},
		{nil, 100, zeros(100), api.OK},
		{nil, 0, nil, api.OK},
		{ints(1), 1, nil, api.ErrDrum},
		{ints(1, 0), 3, zeros(3), api.OK},
		{ints(1, 1), 3, ones(3), api.OK},
		{ints(0, 1), 3, nil, api.ErrDrum},
		{zeros(40), 100, zeros(100), api.OK},
		{ones(40), 100, ones(100), api.OK},
		{late(40), 1, nil, api.ErrDrum},
		{late(40), 0, nil, api.ErrDrum},
		{slices.Concat(late(20), late(20)), 100, slices.Repeat(late(20), 5), api.OK},
		{slices.Concat(late(20), zeros(20)), 100, zeros(100), api.OK},
		{slices.Concat(late(21), zeros(19)), 1, nil, api.ErrDrum},
		// invalid, and the first error before the others
		{rowS(), 101, nil, api.ErrArg},
		{rowS(), -1, nil, api.ErrArg},
		{rowS(), math.MaxInt, nil, api.ErrArg},
		{rowS(), math.MinInt, nil, api.ErrArg},
		{rowS()[:4], 101, nil, api.ErrArg},
		{rowS()[:4], -1, nil, api.ErrArg},
		{zeros(41), -1, nil, api.ErrMany},
		{ints(2), 101, nil, api.ErrRange},
	} {
		if next, e := drum.Next(x.row, x.many); !slices.Equal(next, x.next) || e != x.e {
			t.Error(i, next, e)
		}
	}
}

// P11.5, by the definition; and P11.12: as long as it is a row, the row with what comes
// behind it has as many places.
func TestNext(t *testing.T) {
	c, met := chance{at: 4}, map[api.Errno]int{}
	for _, row := range append(rowsUpTo(10), longRows()...) {
		want := find(row)
		for _, many := range ints(0, 1, c.from(2, 99), 100) {
			next, e := drum.Next(row, many)
			met[e]++
			if want.many > 1 {
				if len(next) > 0 || e != api.ErrDrum {
					t.Fatal(row, many, next, e)
				}
				continue
			}
			if plays := playsOf(want.drum, len(row)+many); !slices.Equal(next, plays[len(row):]) || e != api.OK {
				t.Fatal(row, many, next, e)
			}
			longer := append(slices.Clone(row), next...)
			longer = longer[:min(len(longer), api.MaxDrumWins)]
			if places := must(t, drum.Places, longer); places != want.places {
				t.Fatal(row, many, next, places, want)
			}
		}
	}
	if min(met[api.OK], met[api.ErrDrum]) < 3000 {
		t.Error("too few of a kind:", met)
	}
}
