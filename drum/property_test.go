package drum_test

import (
	"slices"
	"testing"

	"pennyfall/api"
	"pennyfall/drum"
)

// P11.11: with one more play the places stay, or are the number of plays less what they
// were, which is more; they stay for one of both plays, at least.
func TestGrown(t *testing.T) {
	stayed, grew := 0, 0
	for _, row := range append(rowsUpTo(11), longRows()...) {
		if len(row) == api.MaxDrumWins {
			row = row[:len(row)-1]
		}
		places, stays := must(t, drum.Places, row), false
		for play := range 2 {
			longer := append(slices.Clone(row), play)
			switch now := must(t, drum.Places, longer); {
			case now == places:
				stays = true
				stayed++
			case now == len(longer)-places && now > places:
				grew++
			default:
				t.Fatal(row, play, places, now)
			}
		}
		if !stays {
			t.Fatal(row, places)
		}
	}
	if min(stayed, grew) < 1000 {
		t.Error("too few of a kind:", stayed, grew)
	}
}

// P11.12: with what comes behind it, play by play, the places of a row stay, and so does
// what comes then.
func TestNextPlayByPlay(t *testing.T) {
	many := 0
	for i, row := range longRows() {
		next, e := drum.Next(row, api.MaxDrumPlays)
		if e != api.OK || i%4 > 0 {
			continue
		}
		many++
		places := must(t, drum.Places, row)
		for n := 0; len(row)+n <= api.MaxDrumWins; n++ {
			longer := append(slices.Clone(row), next[:n]...)
			rest := told(t, drum.Next, longer, api.MaxDrumPlays-n)
			if must(t, drum.Places, longer) != places || !slices.Equal(rest, next[n:]) {
				t.Fatal(row, n, next, rest)
			}
		}
	}
	if many < 200 {
		t.Error("too few:", many)
	}
}

// checkSum holds P11.13 against two rows with as many plays, and tells whether the row
// that is 1 just where one of both is has as many places as both together.
func checkSum(t *testing.T, a, b []int) bool {
	t.Helper()
	both := must(t, drum.Places, a) + must(t, drum.Places, b)
	places := must(t, drum.Places, sum(a, b))
	if places > both {
		t.Fatal(a, b, places, both)
	}
	return places == both
}

// P11.13: all rows with few plays, and long ones with few places.
func TestSums(t *testing.T) {
	for many := range 7 {
		for _, a := range lists(many) {
			for _, b := range lists(many) {
				checkSum(t, a, b)
			}
		}
	}
	c, same, less := chance{at: 7}, 0, 0
	for _, a := range longRows() {
		for _, b := range [][]int{c.bits(len(a), 2), playsOf(c.drum(c.from(0, len(a)/3)), len(a))} {
			if checkSum(t, a, b) {
				same++
			} else {
				less++
			}
		}
	}
	if min(same, less) < 1000 {
		t.Error("too few of a kind:", same, less)
	}
}

// P11.13: rows that two drums with few places make; both together make their sum, whose
// places are no more than theirs.
func TestSumsOfDrums(t *testing.T) {
	c := chance{at: 8}
	for range 2000 {
		a, b, many := c.drum(c.from(0, 12)), c.drum(c.from(0, 12)), c.from(12, api.MaxDrumWins)
		row := sum(playsOf(a, many), playsOf(b, many))
		both, e := drum.Together(a, b)
		if e != api.OK || drum.Makes(both, row) != api.OK || must(t, drum.Places, row) > len(both.Feed) {
			t.Fatal(a, b, many, both, e)
		}
	}
}

// P11.14: a row without its first play has no more places; with as many plays that were
// lost as it has places, and one more, in front of it, it has more, if one was won.
func TestLater(t *testing.T) {
	less, later := 0, 0
	for _, row := range append(rowsUpTo(11), longRows()...) {
		places := must(t, drum.Places, row)
		if len(row) > 0 {
			without := must(t, drum.Places, row[1:])
			if without > places {
				t.Fatal(row, places, without)
			}
			if without < places {
				less++
			}
		}
		longer := append(zeros(places+1), row...)
		if len(longer) > api.MaxDrumWins {
			continue
		}
		with := must(t, drum.Places, longer)
		wins := slices.Contains(row, 1)
		if wins && with <= places || !wins && with != 0 {
			t.Fatal(row, places, with)
		}
		if wins {
			later++
		}
	}
	if min(less, later) < 1000 {
		t.Error("too few of a kind:", less, later)
	}
}

// P11.15: each play from the beginning on is the same as the one that is a round later.
func TestRoundOfPlays(t *testing.T) {
	for _, d := range longDrums(api.MaxDrumTurn) {
		beginning, round := checkRound(t, d)
		plays := playsOf(d, beginning+2*round+len(d.First))
		if !slices.Equal(plays[beginning:len(plays)-round], plays[beginning+round:]) {
			t.Fatal(d, beginning, round)
		}
		if beginning > 0 && plays[beginning-1] == plays[beginning-1+round] {
			t.Fatal(d, beginning, round)
		}
	}
}
