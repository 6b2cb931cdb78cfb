package drum_test

import (
	"math"
	"slices"
	"testing"

	"pennyfall/api"
	"pennyfall/drum"
)

// P11.6: examples of the chapter, and others.
func TestCheckProofOfSome(t *testing.T) {
	for i, x := range []struct {
		row    []int
		places int
		plays  []int
		e      api.Errno
	}{
		{rowS(), 2, ints(2), api.OK},
		{rowS(), 2, ints(3), api.ErrSum},
		{rowS(), 3, ints(2), api.ErrRange},
		{rowS(), 2, nil, api.ErrSum},
		{rowS(), 0, ints(2), api.OK},
		{rowS(), 1, ints(2), api.OK},
		{rowS(), 0, ints(0, 2), api.OK},
		{rowS(), 0, ints(2, 4), api.ErrSum},
		{rowS(), 0, ints(2, 4, 5), api.OK},
		{rowS(), 1, ints(2, 4, 5), api.ErrSum}, // one before these an odd number is 1
		{rowS(), 1, ints(2, 3, 4, 5), api.OK},
		{rowS(), 2, ints(2, 3, 4, 5), api.ErrSum}, // two before these an odd number is 1
		{rowS(), 1, ints(4), api.OK},
		{rowS(), 2, ints(4), api.ErrSum},
		{rowS(), 6, ints(6), api.ErrSum},
		{late(40), 39, ints(39), api.OK},
		{late(40), 38, ints(38, 39), api.OK},
		{late(40), 38, ints(38), api.ErrSum},
		{late(40), 0, ints(39), api.OK},
		{ints(1), 0, ints(0), api.OK},
		{ints(0), 0, ints(0), api.ErrSum},
		{ints(0), 0, nil, api.ErrSum},
		{nil, 0, nil, api.ErrSum},
		{zeros(40), 39, ints(39), api.ErrSum},
		// plays that are not of the row, from the number places on
		{rowS(), 0, ints(7), api.ErrRange},
		{rowS(), 0, ints(-1), api.ErrRange},
		{rowS(), 0, ints(2, 7), api.ErrRange},
		{rowS(), 2, ints(1, 2), api.ErrRange},
		{rowS(), 7, ints(7), api.ErrRange},
		{rowS(), 7, ints(6), api.ErrRange},
		{rowS(), 0, ints(math.MinInt), api.ErrRange},
		{rowS(), 0, ints(math.MaxInt), api.ErrRange},
		{rowS(), 0, make([]int, 5000), api.ErrRange},
		{nil, 0, ints(0), api.ErrRange},
		// not strictly increasing
		{rowS(), 2, ints(2, 2), api.ErrRange},
		{rowS(), 2, ints(2, 2, 2), api.ErrRange},
		{rowS(), 2, ints(3, 2), api.ErrRange},
		{rowS(), 0, ints(2, 5, 4), api.ErrRange},
		// more places than plays
		{rowS(), 7, nil, api.ErrSum},
		{rowS(), 8, nil, api.ErrSum},
		{rowS(), math.MaxInt, nil, api.ErrSum},
		{rowS(), math.MaxInt, ints(2), api.ErrRange},
		{rowS(), math.MaxInt, ints(math.MaxInt), api.ErrRange},
		{nil, math.MaxInt, nil, api.ErrSum},
		// too few places, and the first error before the others
		{rowS(), -1, ints(2), api.ErrArg},
		{rowS(), -1, nil, api.ErrArg},
		{rowS(), math.MinInt, ints(7), api.ErrArg},
		{zeros(41), -1, ints(50), api.ErrMany},
		{ints(2), -1, ints(50), api.ErrRange},
		{rowS(), 2, ints(3, 7), api.ErrRange},
	} {
		if e := drum.CheckProof(x.row, x.places, x.plays); e != x.e {
			t.Error(i, e)
		}
	}
}

// members returns the numbers from least on whose bits a number has.
func members(set, least int) []int {
	var out []int
	for at := least; set > 0; at++ {
		if set&1 == 1 {
			out = append(out, at)
		}
		set >>= 1
	}
	return out
}

// checkProof holds whether plays prove against the definition, and P11.9: if they do, no
// drum with so many places makes the row, nor one with fewer, if it needs so many.
func checkProof(t *testing.T, row []int, needs, places int, plays []int) api.Errno {
	t.Helper()
	want := api.ErrSum
	if proves(row, places, plays) {
		want = api.OK
	}
	if e := drum.CheckProof(row, places, plays); e != want {
		t.Fatal(row, places, plays, e, want)
	}
	if want == api.OK && needs <= places {
		t.Fatal(row, needs, places, plays)
	}
	return want
}

// P11.6 and P11.9, by the definitions: all plays of all short rows.
func TestCheckProof(t *testing.T) {
	met := map[api.Errno]int{}
	for _, row := range rowsUpTo(9) {
		needs := find(row).places
		for places := range len(row) + 1 {
			for set := range 1 << (len(row) - places) {
				met[checkProof(t, row, needs, places, members(set, places))]++
			}
		}
	}
	if min(met[api.OK], met[api.ErrSum]) < 10000 {
		t.Error("too few of a kind:", met)
	}
}

// P11.6 and P11.9, by the definitions: some plays of long rows, among them what proves,
// with and without a play.
func TestCheckProofOfLong(t *testing.T) {
	c, met := chance{at: 5}, map[api.Errno]int{}
	for _, row := range longRows() {
		needs := find(row).places
		proof, _ := drum.Proof(row)
		for range min(10, len(row)) {
			places := c.below(len(row))
			met[checkProof(t, row, needs, places, members(c.below(1<<(len(row)-places)), places))]++
			places = c.from(0, max(needs-1, 0))
			at := c.from(places, len(row)-1)
			other := slices.DeleteFunc(slices.Clone(proof), func(x int) bool { return x == at })
			met[checkProof(t, row, needs, places, other)]++
			if !slices.Contains(proof, at) {
				other = append(other, at)
				slices.Sort(other)
				met[checkProof(t, row, needs, places, other)]++
			}
		}
	}
	if min(met[api.OK], met[api.ErrSum]) < 10000 {
		t.Error("too few of a kind:", met)
	}
}

// P11.6: which plays are plays of a row, from a number on, strictly increasing.
func TestPlaysOfProof(t *testing.T) {
	for _, row := range [][]int{nil, ints(1), ints(0, 1), ints(0, 0, 1), rowS()[:4]} {
		for places := range len(row) + 2 {
			tried := [][]int{nil}
			for i := 0; i < len(tried) && len(tried[i]) < 3; i++ {
				for play := -1; play <= len(row)+1; play++ {
					tried = append(tried, append(slices.Clone(tried[i]), play))
				}
			}
			for _, plays := range tried {
				isIncreasing := slices.IsSorted(plays) && len(slices.Compact(slices.Clone(plays))) == len(plays)
				isOfRow := len(plays) == 0 || slices.Min(plays) >= places && slices.Max(plays) < len(row)
				if e := drum.CheckProof(row, places, plays); (e == api.ErrRange) == (isIncreasing && isOfRow) {
					t.Fatal(row, places, plays, e)
				}
			}
		}
	}
}

// P11.6: examples of the chapter, and others.
func TestProofOfSome(t *testing.T) {
	for i, x := range []struct {
		row []int
		e   api.Errno
	}{
		{rowS(), api.OK},
		{zeros(3), api.ErrNone},
		{nil, api.ErrNone},
		{zeros(40), api.ErrNone},
		{ints(1), api.OK},
		{late(40), api.OK},
		{zeros(41), api.ErrMany},
		{ints(0, -1), api.ErrRange},
	} {
		if proof, e := drum.Proof(x.row); e != x.e || (len(proof) > 0) != (e == api.OK) {
			t.Error(i, proof, e)
		}
	}
	// Of these there is just one proof.
	for i, x := range []struct{ row, proof []int }{
		{ints(1), ints(0)},
		{late(40), ints(39)},
		{late(5), ints(4)},
		{rowS()[:3], ints(2)},
		{append(ones(9), 0), ints(8, 9)},
	} {
		if proof, e := drum.Proof(x.row); !slices.Equal(proof, x.proof) || e != api.OK {
			t.Error(i, proof, e)
		}
	}
}

// P11.6 and P11.9, by the definitions: the drum of Shortest makes the row, and plays prove
// that no shorter one does.
func TestProof(t *testing.T) {
	long := 0
	for _, row := range append(rowsUpTo(11), longRows()...) {
		want := find(row)
		proof, e := drum.Proof(row)
		if want.places == 0 {
			if len(proof) > 0 || e != api.ErrNone {
				t.Fatal(row, proof, e)
			}
			continue
		}
		if len(proof) > 3 {
			long++
		}
		isRight := len(proof) > 0 && slices.IsSorted(proof) && len(slices.Compact(slices.Clone(proof))) == len(proof) &&
			proof[0] >= want.places-1 && proof[len(proof)-1] < len(row)
		if e != api.OK || !isRight || !proves(row, want.places-1, proof) {
			t.Fatal(row, proof, e)
		}
		if e := drum.CheckProof(row, want.places-1, proof); e != api.OK {
			t.Fatal(row, proof, e)
		}
		if d := must(t, drum.Shortest, row); len(d.Feed) != want.places || drum.Makes(d, row) != api.OK {
			t.Fatal(row, d)
		}
	}
	if long < 1000 {
		t.Error("too few long ones:", long)
	}
}
