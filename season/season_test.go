package season_test

import (
	"math"
	"slices"
	"testing"

	"pennyfall/api"
	"pennyfall/season"
)

// P12.1: entries of each kind, at the limits and beyond.
func TestCheckEntryOfSome(t *testing.T) {
	for i, x := range []struct {
		e   api.SeasonEntry
		err api.Errno
	}{
		{entry(0, 1, coin, 5), api.OK},
		{entry(0, 1, coin, 1), api.OK},
		{entry(4, 30, coin, 100), api.OK},
		{entry(0, 1, coin, 0), api.ErrArg},
		{entry(0, 1, play, 0), api.OK},
		{entry(4, 30, play, 100), api.OK},
		{entry(0, 1, box, 0), api.OK},
		{entry(4, 30, box, 100), api.OK},
		{entry(0, 1, plea, 1), api.OK},
		{entry(4, 30, plea, 100), api.OK},
		{entry(0, 1, plea, 0), api.ErrArg},
		{entry(0, 2, back, 1), api.OK},
		{entry(4, 30, back, 29), api.OK},
		{entry(4, 30, back, 1), api.OK},
		{entry(4, 30, back, 0), api.ErrArg},
		{entry(4, 30, back, 30), api.ErrArg},
		{entry(4, 30, back, 100), api.ErrArg},
		{entry(0, 4, back, 4), api.ErrArg},
		{entry(0, 4, back, 3), api.OK},
		{entry(0, 1, back, 1), api.ErrArg}, // there is none that it can take back
		{entry(0, 1, back, 0), api.ErrArg},
		// out of range
		{entry(-1, 1, coin, 1), api.ErrRange},
		{entry(5, 1, coin, 1), api.ErrRange},
		{entry(0, 0, coin, 1), api.ErrRange},
		{entry(0, 31, coin, 1), api.ErrRange},
		{entry(0, -1, coin, 1), api.ErrRange},
		{entry(0, 1, coin, 101), api.ErrRange},
		{entry(0, 1, coin, -1), api.ErrRange},
		{entry(0, 1, play, -1), api.ErrRange},
		{entry(0, 1, box, 101), api.ErrRange},
		{entry(0, 1, plea, -1), api.ErrRange},
		{entry(0, 2, back, 101), api.ErrRange},
		{entry(0, 2, back, -1), api.ErrRange},
		{entry(math.MinInt, 1, coin, 1), api.ErrRange},
		{entry(0, math.MaxInt, coin, 1), api.ErrRange},
		{entry(0, math.MinInt, back, 1), api.ErrRange},
		{entry(0, 1, coin, math.MaxInt), api.ErrRange},
		{entry(0, 1, back, math.MinInt), api.ErrRange},
		// no kind
		{entry(0, 1, 0, 1), api.ErrArg},
		{entry(0, 1, 6, 1), api.ErrArg},
		{entry(0, 1, -1, 1), api.ErrArg},
		{entry(0, 1, math.MinInt, 0), api.ErrArg},
		{entry(0, 30, math.MaxInt, 1), api.ErrArg},
		// the first error before the other
		{api.SeasonEntry{}, api.ErrRange},
		{entry(5, 1, 0, 1), api.ErrRange},
		{entry(0, 31, 6, 0), api.ErrRange},
		{entry(0, 1, 6, 101), api.ErrRange},
		{entry(0, 31, coin, 0), api.ErrRange},
	} {
		if e := season.CheckEntry(x.e); e != x.err {
			t.Error(i, x.e, e)
		}
	}
}

// P12.1, by the definition: all entries about the limits.
func TestCheckEntry(t *testing.T) {
	found := map[api.Errno]int{}
	for machine := -1; machine <= 5; machine++ {
		for number := -1; number <= 32; number++ {
			for kind := -1; kind <= 7; kind++ {
				for amount := -2; amount <= 102; amount++ {
					e := entry(machine, number, kind, amount)
					got, want := season.CheckEntry(e), errorOfEntry(e)
					if got != want {
						t.Fatal(e, got, want)
					}
					found[got]++
				}
			}
		}
	}
	if len(found) != 3 {
		t.Error("not all kinds:", found)
	}
}

// errorsOf returns the errors of all functions with a season but CheckSeason; the other
// arguments are not valid, either.
func errorsOf(s api.Season) []api.Errno {
	_, put := season.Put(s, api.SeasonEntry{})
	_, one := season.Join(s, book(api.SeasonEntry{}))
	_, other := season.Join(seasonS(), s)
	_, marks := season.Marks(s)
	_, gaps := season.Gaps(s, -1)
	_, since := season.Since(s, nil)
	_, replay := season.Replay(s, -1)
	_, takings := season.Takings(s)
	_, file := season.File(s)
	return []api.Errno{put, one, other, marks, gaps, since, replay, takings, file}
}

// checkErrors holds the error of a season, in all functions, against what it has to be.
func checkErrors(t *testing.T, s api.Season, want api.Errno) {
	t.Helper()
	if e := season.CheckSeason(s); e != want {
		t.Fatal(s, e, want)
	}
	for i, e := range errorsOf(s) {
		if want != api.OK && e != want {
			t.Fatal(s, i, e, want)
		}
	}
}

// P12.1, and that all functions with a season return its errors before all others.
func TestCheckSeasonOfSome(t *testing.T) {
	wrong, none := entry(0, 1, coin, 101), entry(0, 1, 0, 1)
	a, b, c, d := entry(0, 1, coin, 1), entry(0, 2, coin, 1), entry(1, 1, coin, 1), entry(1, 30, back, 29)
	for _, x := range []struct {
		s api.Season
		e api.Errno
	}{
		{seasonS(), api.OK},
		{seasonT(), api.OK},
		{seasonJ(), api.OK},
		{api.Season{}, api.OK},
		{coins(0, 24), api.OK},
		{book(a, b, c, d), api.OK},
		{book(b, c), api.OK},
		{book(a, d), api.OK},
		// too many
		{coins(0, 25), api.ErrMany},
		{coins(4, 30), api.ErrMany},
		{book(make([]api.SeasonEntry, 25)...), api.ErrMany},
		{book(make([]api.SeasonEntry, 5000)...), api.ErrMany},
		// an entry
		{book(make([]api.SeasonEntry, 24)...), api.ErrRange},
		{book(wrong), api.ErrRange},
		{book(none), api.ErrArg},
		{book(a, b, entry(1, 1, back, 1)), api.ErrArg},
		{book(none, wrong), api.ErrArg}, // the error of the first one
		{book(wrong, none), api.ErrRange},
		{book(a, none, wrong), api.ErrArg},
		{book(a, b, c, entry(1, 31, coin, 1)), api.ErrRange},
		// the order
		{book(b, a), api.ErrRule},
		{book(c, b), api.ErrRule},
		{book(d, b), api.ErrRule},
		{book(a, b, d, c), api.ErrRule},
		{book(a, c, b), api.ErrRule},
		{book(a, a), api.ErrRule},
		{book(a, entry(0, 1, play, 2)), api.ErrRule},
		{book(a, b, b), api.ErrRule},
		// the first error before the others
		{book(b, a, none), api.ErrArg},
		{book(b, a, wrong), api.ErrRange},
		{book(append(coins(0, 24).Entries, none)...), api.ErrMany},
		{book(slices.Repeat([]api.SeasonEntry{b, a}, 13)...), api.ErrMany},
	} {
		checkErrors(t, x.s, x.e)
	}
}

// P12.1, by the definition: all seasons of up to three of some entries, and others.
func TestCheckSeason(t *testing.T) {
	found := map[api.Errno]int{}
	some := []api.SeasonEntry{
		entry(0, 1, coin, 1), entry(0, 1, play, 1), entry(0, 2, back, 1), entry(1, 1, box, 0), entry(1, 2, plea, 1),
		entry(3, 1, coin, 0), entry(5, 1, coin, 1), entry(4, 30, coin, 100), entry(0, 3, 7, 1), entry(2, 3, back, 3),
	}
	lists := [][]api.SeasonEntry{nil}
	for i := 0; i < len(lists) && len(lists[i]) < 3; i++ {
		for _, e := range some {
			lists = append(lists, append(slices.Clone(lists[i]), e))
		}
	}
	for _, list := range lists {
		checkErrors(t, book(list...), errorOf(book(list...)))
	}
	c := chance{at: 2}
	for _, s := range seasons() {
		checkErrors(t, s, api.OK)
		other := c.wrong(s)
		found[errorOf(other)]++
		checkErrors(t, other, errorOf(other))
	}
	for _, e := range []api.Errno{api.OK, api.ErrArg, api.ErrRange, api.ErrMany, api.ErrRule} {
		if found[e] < 100 {
			t.Error("too few of a kind:", found)
		}
	}
}

// P12.2: examples of the chapter, and others.
func TestPutOfSome(t *testing.T) {
	full := coins(2, 24)
	for i, x := range []struct {
		s   api.Season
		e   api.SeasonEntry
		out api.Season
		err api.Errno
	}{
		{seasonS(), entry(0, 2, play, 2), seasonS(), api.OK},
		{seasonS(), entry(0, 2, play, 3), api.Season{}, api.ErrEqual},
		{seasonS(), entry(0, 4, back, 4), api.Season{}, api.ErrArg},
		{seasonS(), entry(0, 4, plea, 1), seasonJ(), api.OK},
		{seasonS(), entry(0, 2, box, 2), api.Season{}, api.ErrEqual}, // another kind
		{seasonT(), entry(0, 1, coin, 1), book(entry(0, 1, coin, 1), entry(0, 3, box, 2), entry(0, 4, plea, 1)), api.OK},
		{seasonT(), entry(0, 30, coin, 1), book(entry(0, 3, box, 2), entry(0, 4, plea, 1), entry(0, 30, coin, 1)), api.OK},
		{seasonT(), entry(1, 3, coin, 1), book(entry(0, 3, box, 2), entry(0, 4, plea, 1), entry(1, 3, coin, 1)), api.OK},
		{book(entry(1, 1, coin, 1)), entry(0, 2, coin, 1), book(entry(0, 2, coin, 1), entry(1, 1, coin, 1)), api.OK},
		{api.Season{}, entry(4, 30, back, 29), book(entry(4, 30, back, 29)), api.OK},
		{coins(0, 23), entry(0, 24, coin, 24), coins(0, 24), api.OK},
		// full
		{full, entry(2, 24, coin, 24), full, api.OK},
		{full, entry(2, 24, coin, 23), api.Season{}, api.ErrEqual},
		{full, entry(2, 25, coin, 25), api.Season{}, api.ErrMany},
		{full, entry(0, 1, coin, 1), api.Season{}, api.ErrMany},
		{full, entry(2, 25, coin, 101), api.Season{}, api.ErrRange},
		{full, entry(2, 24, coin, 0), api.Season{}, api.ErrArg},
		// invalid
		{seasonS(), api.SeasonEntry{}, api.Season{}, api.ErrRange},
		{seasonS(), entry(0, 2, 0, 2), api.Season{}, api.ErrArg},
		{coins(0, 25), api.SeasonEntry{}, api.Season{}, api.ErrMany},
		{book(entry(0, 1, 0, 1)), api.SeasonEntry{}, api.Season{}, api.ErrArg},
		{book(entry(0, 2, coin, 1), entry(0, 1, coin, 1)), entry(0, 2, 0, 2), api.Season{}, api.ErrRule},
	} {
		if out, err := season.Put(x.s, x.e); !equalSeasons(out, x.out) || err != x.err {
			t.Error(i, out, err)
		}
	}
}

// P12.2, by the definition: all entries with small numbers, into small seasons.
func TestPutOfAll(t *testing.T) {
	for _, s := range allWith(2) {
		for machine := range 2 {
			for number := range 5 {
				for kind := range 7 {
					for amount := range 3 {
						checkPut(t, s, entry(machine, number, kind, amount))
					}
				}
			}
		}
	}
}

// checkPut holds Put against the definition.
func checkPut(t *testing.T, s api.Season, e api.SeasonEntry) api.Errno {
	t.Helper()
	want, err := api.Season{}, errorOfEntry(e)
	if err == api.OK {
		want, err = joined(s, book(e))
	}
	if out, got := season.Put(s, e); !equalSeasons(out, want) || got != err {
		t.Fatal(s, e, out, got, want, err)
	}
	return err
}

// P12.2, by the definition: seasons up to the limit.
func TestPut(t *testing.T) {
	c, found := chance{at: 3}, map[api.Errno]int{}
	for _, s := range seasons() {
		found[checkPut(t, s, c.next(s))]++
		if len(s.Entries) > 0 {
			found[checkPut(t, s, oneOf(&c, s.Entries))]++
			found[checkPut(t, s, oneOf(&c, c.changed(s).Entries))]++
			e := oneOf(&c, s.Entries)
			found[checkPut(t, s, oneOf(&c, c.wrong(book(e)).Entries))]++
		}
	}
	for _, e := range []api.Errno{api.OK, api.ErrArg, api.ErrRange, api.ErrMany, api.ErrEqual} {
		if found[e] < 100 {
			t.Error("too few of a kind:", found)
		}
	}
}

// P12.2: examples of the chapter, and others.
func TestJoinOfSome(t *testing.T) {
	half, rest := coins(1, 12), book(coins(1, 24).Entries[12:]...)
	for i, x := range []struct {
		a, b, out api.Season
		e         api.Errno
	}{
		{seasonS(), seasonT(), seasonJ(), api.OK},
		{seasonT(), seasonS(), seasonJ(), api.OK},
		{seasonJ(), seasonS(), seasonJ(), api.OK},
		{seasonS(), seasonS(), seasonS(), api.OK},
		{seasonS(), api.Season{}, seasonS(), api.OK},
		{api.Season{}, seasonS(), seasonS(), api.OK},
		{api.Season{}, api.Season{}, api.Season{}, api.OK},
		{half, rest, coins(1, 24), api.OK},
		{rest, half, coins(1, 24), api.OK},
		{coins(1, 24), coins(1, 24), coins(1, 24), api.OK},
		{coins(1, 24), rest, coins(1, 24), api.OK},
		// different, or too many
		{seasonS(), book(entry(0, 1, coin, 4)), api.Season{}, api.ErrEqual},
		{book(entry(0, 1, play, 5)), seasonS(), api.Season{}, api.ErrEqual},
		{coins(0, 24), book(entry(1, 1, coin, 1)), api.Season{}, api.ErrMany},
		{coins(0, 1), coins(1, 24), api.Season{}, api.ErrMany},
		{coins(0, 13), coins(1, 12), api.Season{}, api.ErrMany},
		{coins(0, 24), book(entry(0, 1, coin, 2), entry(1, 1, coin, 1)), api.Season{}, api.ErrEqual},
		{coins(1, 24), book(entry(0, 1, coin, 1), entry(1, 24, coin, 1)), api.Season{}, api.ErrEqual},
		// invalid
		{coins(0, 25), book(api.SeasonEntry{}), api.Season{}, api.ErrMany},
		{coins(0, 24), coins(1, 25), api.Season{}, api.ErrMany},
		{coins(0, 24), book(entry(1, 1, 9, 1)), api.Season{}, api.ErrArg},
		{book(entry(1, 1, 9, 1)), book(api.SeasonEntry{}), api.Season{}, api.ErrArg},
		{coins(0, 1), book(entry(0, 2, coin, 1), entry(0, 1, coin, 2)), api.Season{}, api.ErrRule},
	} {
		if out, e := season.Join(x.a, x.b); !equalSeasons(out, x.out) || e != x.e {
			t.Error(i, out, e)
		}
	}
}

// checkJoin holds Join against the definition.
func checkJoin(t *testing.T, a, b api.Season) api.Errno {
	t.Helper()
	want, err := joined(a, b)
	if out, e := season.Join(a, b); !equalSeasons(out, want) || e != err {
		t.Fatal(a, b, out, e, want, err)
	}
	return err
}

// P12.2, by the definition: all pairs of small seasons, parts of others, and other ones.
func TestJoin(t *testing.T) {
	for _, a := range allWith(2) {
		for _, b := range allWith(2) {
			checkJoin(t, a, b)
		}
	}
	c, found, all := chance{at: 4}, map[api.Errno]int{}, seasons()
	for _, s := range all {
		a, b := c.part(s), c.part(s)
		found[checkJoin(t, a, b)]++
		found[checkJoin(t, a, c.changed(s))]++
		other := oneOf(&c, all)
		found[checkJoin(t, s, other)]++
		found[checkJoin(t, a, c.part(other))]++
	}
	for _, e := range []api.Errno{api.OK, api.ErrMany, api.ErrEqual} {
		if found[e] < 200 {
			t.Error("too few of a kind:", found)
		}
	}
}
