package season_test

import (
	"slices"
	"testing"

	"pennyfall/api"
	"pennyfall/season"
)

// putAll returns the season that entries give, put in one after another.
func putAll(t *testing.T, entries []api.SeasonEntry) api.Season {
	t.Helper()
	var s api.Season
	for _, e := range entries {
		s = told(t, season.Put, s, e)
	}
	return s
}

// P12.7: in whatever order entries are put in, and however often, the season is the same.
func TestOrder(t *testing.T) {
	c := chance{at: 7}
	for _, s := range append(allWith(3), seasons()...) {
		entries := slices.Concat(s.Entries, c.part(s).Entries, c.part(s).Entries)
		if out := putAll(t, shuffled(&c, entries)); !equalSeasons(out, s) {
			t.Fatal(s, out)
		}
		if out := putAll(t, shuffled(&c, s.Entries)); !equalSeasons(out, s) {
			t.Fatal(s, out)
		}
	}
}

// P12.8: three seasons are joined in whatever order to the same one; a season joined with
// itself, or with a part of it, is the season.
func TestJoined(t *testing.T) {
	c := chance{at: 8}
	for _, s := range append(allWith(3), seasons()...) {
		part := c.part(s)
		for _, out := range []api.Season{
			told(t, season.Join, s, s), told(t, season.Join, s, part), told(t, season.Join, part, s),
		} {
			if !equalSeasons(out, s) {
				t.Fatal(s, part, out)
			}
		}
		x, y, z := part, c.part(s), c.part(s)
		want := told(t, season.Join, told(t, season.Join, x, y), z)
		for _, order := range [][3]api.Season{{x, y, z}, {x, z, y}, {y, x, z}, {y, z, x}, {z, x, y}, {z, y, x}} {
			left := told(t, season.Join, told(t, season.Join, order[0], order[1]), order[2])
			right := told(t, season.Join, order[0], told(t, season.Join, order[1], order[2]))
			if !equalSeasons(left, want) || !equalSeasons(right, want) {
				t.Fatal(order, left, right, want)
			}
		}
	}
}

// P12.8: seasons that cannot be joined in one order cannot be in the other.
func TestJoinedNot(t *testing.T) {
	c, all, many := chance{at: 9}, seasons(), 0
	for _, s := range all {
		other := oneOf(&c, all)
		one, e := season.Join(s, other)
		two, f := season.Join(other, s)
		if !equalSeasons(one, two) || e != f {
			t.Fatal(s, other, one, two, e, f)
		}
		if e != api.OK {
			many++
		}
	}
	if many < 1000 {
		t.Error("too few:", many)
	}
}

// synced holds P12.9 against two seasons of which no entries are different ones with one
// Machine and Number, and tells whether Since leaves anything out.
func synced(t *testing.T, own, other api.Season) bool {
	t.Helper()
	since := told(t, season.Since, other, must(t, season.Marks, own))
	whole, e := season.Join(own, other)
	out, f := season.Join(own, since)
	if !equalSeasons(out, whole) || e != f || e == api.ErrEqual {
		t.Fatal(own, other, since, out, whole, e, f)
	}
	return len(since.Entries) < len(other.Entries)
}

// P12.9: parts of the same season, and seasons that may be too many together.
func TestSynced(t *testing.T) {
	c, less, tooMany := chance{at: 10}, 0, 0
	for _, s := range append(allWith(3), seasons()...) {
		for _, own := range []api.Season{c.part(s), sinceOf(s, c.marks(s)), s, {}} {
			if synced(t, own, c.part(s)) {
				less++
			}
			if synced(t, own, s) {
				less++
			}
		}
		own, other := coins(3, c.from(0, 24)), coins(3, c.from(0, 24))
		other.Entries = append(other.Entries, entry(4, 1, coin, 1))[len(other.Entries)/2:]
		if _, e := season.Join(own, other); e == api.ErrMany {
			tooMany++
		}
		synced(t, own, other)
	}
	if min(less, tooMany) < 50 {
		t.Error("too few of a kind:", less, tooMany)
	}
}

// P12.10: the coins that are settled, and not left out, are held, in the box, paid and
// returned; no number is below 0.
func TestKept(t *testing.T) {
	for _, s := range append(allWith(4), seasons()...) {
		for _, machine := range machines() {
			all, settled := int64(0), settledOf(s, machine)
			for _, e := range settled {
				if e.Kind == coin && !isLeftOut(settled, e.Number) {
					all += int64(e.Amount)
				}
			}
			out := told(t, season.Replay, s, machine)
			if out.Held+out.Boxed+out.Paid+out.Returned != all {
				t.Fatal(s, machine, out, all)
			}
			if min(out.Credit, out.Held, out.Boxed, out.Paid, out.Returned) < 0 {
				t.Fatal(s, machine, out)
			}
		}
	}
}

// checkGrown holds P12.11 against a season with one more entry, and tells whether a mark
// is greater.
func checkGrown(t *testing.T, s api.Season, e api.SeasonEntry) bool {
	t.Helper()
	with := told(t, season.Put, s, e)
	before, after := must(t, season.Marks, s), must(t, season.Marks, with)
	for _, machine := range machines() {
		if after[machine] < before[machine] || machine != e.Machine && after[machine] != before[machine] {
			t.Fatal(s, e, before, after)
		}
		was, is := told(t, season.Replay, s, machine), told(t, season.Replay, with, machine)
		if after[machine] == before[machine] && !equalStates(was, is) {
			t.Fatal(s, e, machine, was, is)
		}
	}
	return after[e.Machine] > before[e.Machine]
}

// P12.11: with one more entry no mark becomes less, and only that of its machine greater;
// a state stays if its mark does.
func TestGrows(t *testing.T) {
	c, grew, stayed := chance{at: 11}, 0, 0
	for _, s := range append(allWith(3), seasons()...) {
		if len(s.Entries) == api.MaxSeasonEntries {
			s = without(s, c.below(len(s.Entries)))
		}
		for range 3 {
			if checkGrown(t, s, c.next(s)) {
				grew++
			} else {
				stayed++
			}
		}
	}
	if min(grew, stayed) < 1000 {
		t.Error("too few of a kind:", grew, stayed)
	}
}

// P12.12: an entry that is taken back by the next one leaves the state as it was before.
func TestBack(t *testing.T) {
	many := 0
	for _, s := range append(allWith(4), seasons()...) {
		for i, e := range s.Entries {
			isLast := e.Number == greatestOf(s, e.Machine) && e.Number == markOf(s, e.Machine)
			if !isLast || e.Kind == back || e.Number == api.MaxSeasonNumber || len(s.Entries) == api.MaxSeasonEntries {
				continue
			}
			many++
			with := told(t, season.Put, s, entry(e.Machine, e.Number+1, back, e.Number))
			out := told(t, season.Replay, with, e.Machine)
			if was := told(t, season.Replay, without(s, i), e.Machine); !equalStates(out, was) {
				t.Fatal(s, e, out, was)
			}
		}
	}
	if many < 1000 {
		t.Error("too few:", many)
	}
}

// moveTo returns a season of which all entries of a machine are those of another one, and
// the other way round.
func moveTo(s api.Season, from, to int) api.Season {
	out := cloned(s)
	for i := range out.Entries {
		switch e := &out.Entries[i]; e.Machine {
		case from:
			e.Machine = to
		case to:
			e.Machine = from
		}
	}
	return ordered(out.Entries)
}

// P12.13: whichever machine it is, its entries give the same state.
func TestApart(t *testing.T) {
	c := chance{at: 12}
	for _, s := range append(allWith(4), seasons()...) {
		from, to := 0, c.from(0, api.MaxSeasonMachine)
		if len(s.Entries) > 0 {
			from = oneOf(&c, s.Entries).Machine
		}
		other := moveTo(s, from, to)
		for _, x := range [][2]int{{from, to}, {to, from}} {
			was, is := told(t, season.Replay, s, x[0]), told(t, season.Replay, other, x[1])
			if !equalStates(was, is) {
				t.Fatal(s, x, was, is)
			}
		}
		if must(t, season.Takings, s) != must(t, season.Takings, other) {
			t.Fatal(s, from, to)
		}
	}
}

// P12.14: a season is loaded from its file; a file that is loaded is that of its season.
func TestFiled(t *testing.T) {
	c, many := chance{at: 13}, 0
	for _, s := range append(allWith(4), seasons()...) {
		if out := must(t, season.Load, must(t, season.File, s)); !equalSeasons(out, s) {
			t.Fatal(s, out)
		}
		text := c.text(s)
		out, e := season.Load(text)
		if e != api.OK {
			continue
		}
		many++
		if file := must(t, season.File, out); file != text {
			t.Fatalf("%q %q", text, file)
		}
	}
	if many < 1000 {
		t.Error("too few:", many)
	}
}

// P12.15: a mark is one less than the first gap; without gaps it is the greatest Number.
func TestMarkOfGaps(t *testing.T) {
	for _, s := range append(allWith(4), seasons()...) {
		marks := must(t, season.Marks, s)
		for _, machine := range machines() {
			want := greatestOf(s, machine)
			if gaps := told(t, season.Gaps, s, machine); len(gaps) > 0 {
				want = gaps[0] - 1
			}
			if marks[machine] != want {
				t.Fatal(s, machine, marks, want)
			}
		}
	}
}
