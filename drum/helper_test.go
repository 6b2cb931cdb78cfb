package drum_test

import (
	"math/bits"
	"slices"
	"testing"

	"pennyfall/api"
)

func ints(list ...int) []int { return list }

// shift returns a drum.
func shift(feed, first []int) api.DrumShift { return api.DrumShift{Feed: feed, First: first} }

// rowS, drumD, drumA and drumE are those of the chapter.
func rowS() []int { return ints(0, 0, 1, 0, 1, 1, 1) }

func drumD() api.DrumShift { return shift(ints(0, 1, 1), ints(0, 0, 1)) }

func drumA() api.DrumShift { return shift(ints(1), ints(1)) }

func drumE() api.DrumShift { return shift(ints(1, 0), ints(0, 1)) }

// zeros and ones return a list of so many numbers.
func zeros(many int) []int { return slices.Repeat(ints(0), many) }

func ones(many int) []int { return slices.Repeat(ints(1), many) }

// late is a row of so many plays of which just the last one was won.
func late(many int) []int { return append(zeros(many-1), 1) }

func equalDrums(a, b api.DrumShift) bool {
	return slices.Equal(a.Feed, b.Feed) && slices.Equal(a.First, b.First)
}

func clonedDrum(d api.DrumShift) api.DrumShift {
	return shift(slices.Clone(d.Feed), slices.Clone(d.First))
}

// isZeroDrum tells whether a drum is the zero value.
func isZeroDrum(d api.DrumShift) bool { return len(d.Feed) == 0 && len(d.First) == 0 }

// playsOf returns the first plays of a drum, by the definition.
func playsOf(d api.DrumShift, many int) []int {
	out := slices.Clone(d.First)
	for len(out) < many {
		sum := 0
		for k, feed := range d.Feed {
			sum += feed * out[len(out)-k-1]
		}
		out = append(out, sum%2)
	}
	return out[:many]
}

// makes tells whether a drum makes a row, by the definition.
func makes(d api.DrumShift, row []int) bool { return slices.Equal(playsOf(d, len(row)), row) }

// lists returns all lists of so many numbers, in lexicographic order.
func lists(many int) [][]int {
	out := [][]int{nil}
	for range many {
		var longer [][]int
		for _, list := range out {
			longer = append(longer, append(slices.Clone(list), 0), append(slices.Clone(list), 1))
		}
		out = longer
	}
	return out
}

// rowsUpTo returns all rows of up to so many plays.
func rowsUpTo(many int) [][]int {
	var out [][]int
	for n := range many + 1 {
		out = append(out, lists(n)...)
	}
	return out
}

// drumsOf returns all drums with so many places.
func drumsOf(places int) []api.DrumShift {
	var out []api.DrumShift
	for _, feed := range lists(places) {
		for _, first := range lists(places) {
			out = append(out, shift(feed, first))
		}
	}
	return out
}

// drumsUpTo returns all drums with up to so many places.
func drumsUpTo(places int) []api.DrumShift {
	var out []api.DrumShift
	for n := range places + 1 {
		out = append(out, drumsOf(n)...)
	}
	return out
}

// found is the places of a row, how many drums with so many make it, and one of them.
type found struct {
	places int
	many   int64
	drum   api.DrumShift
}

// short is how many plays the rows of table have, at most.
const short = 9

// name returns a text for a row.
func name(row []int) string {
	out := ""
	for _, play := range row {
		out += string(rune('0' + play))
	}
	return out
}

// table returns what is found of all rows of up to short plays, drum by drum, those with
// the fewest places first.
func table() map[string]found {
	out := map[string]found{}
	for _, d := range drumsUpTo(short) {
		plays := playsOf(d, short)
		for n := len(d.First); n <= short; n++ { // a row of fewer plays has no more places than plays
			at := name(plays[:n])
			f, ok := out[at]
			if !ok {
				f = found{places: len(d.Feed), drum: d}
			}
			if f.places == len(d.Feed) {
				f.many++
				out[at] = f
			}
		}
	}
	return out
}

// equations returns those that the Feed of a drum with so many places fulfils if it makes
// a row: the bit k tells whether Feed[k] is in the sum, the bit of places what it is.
func equations(row []int, places int) []uint64 {
	var out []uint64
	for at := places; at < len(row); at++ {
		sum := uint64(row[at]) << places
		for k := range places {
			sum |= uint64(row[at-k-1]) << k
		}
		out = append(out, sum)
	}
	return out
}

// solve returns a Feed with so many places that fulfils equations, and how many of its
// places are free, or false if there is none.
func solve(list []uint64, places int) ([]int, int, bool) {
	led := make([]uint64, places) // by their lowest bit
	rank := 0
	for _, sum := range list {
		for sum != 0 {
			k := bits.TrailingZeros64(sum)
			if k == places {
				return nil, 0, false
			}
			if led[k] == 0 {
				led[k] = sum
				rank++
				break
			}
			sum ^= led[k]
		}
	}
	feed := make([]int, places)
	for k, sum := range slices.Backward(led) {
		if sum == 0 {
			continue
		}
		feed[k] = int(sum >> places & 1)
		for i := k + 1; i < places; i++ {
			feed[k] ^= int(sum>>i&1) * feed[i]
		}
	}
	return feed, places - rank, true
}

// find returns what is found of a row, by equations.
func find(row []int) found {
	for places := 0; ; places++ {
		feed, free, ok := solve(equations(row, places), places)
		if ok {
			return found{places, 1 << free, shift(feed, slices.Clone(row[:places]))}
		}
	}
}

// proves tells whether plays prove that a row needs more than so many places, by the
// definition, if they are plays of it from there on.
func proves(row []int, places int, plays []int) bool {
	for k := range places + 1 {
		many := 0
		for _, at := range plays {
			many += row[at-k]
		}
		if (many%2 == 1) != (k == 0) {
			return false
		}
	}
	return true
}

// turned returns the beginning and the round of plays, by the definition; they are so
// many that no greater ones than most can be both together.
func turned(plays []int, most int) (int, int) {
	for beginning := range most {
		for round := 1; beginning+round <= most; round++ {
			if slices.Equal(plays[beginning:len(plays)-round], plays[beginning+round:]) {
				return beginning, round
			}
		}
	}
	return -1, -1
}

// sum returns the row that is 1 just where one of both is, and not both.
func sum(a, b []int) []int {
	var out []int
	for i := range a {
		out = append(out, (a[i]+b[i])%2)
	}
	return out
}

// must returns what a function tells of a valid argument.
func must[A, T any](t *testing.T, ask func(x A) (T, api.Errno), x A) T {
	t.Helper()
	out, e := ask(x)
	if e != api.OK {
		t.Fatal(x, out, e)
	}
	return out
}

// told returns what a function tells of a valid argument and a number.
func told[A, T any](t *testing.T, ask func(x A, n int) (T, api.Errno), x A, n int) T {
	t.Helper()
	out, e := ask(x, n)
	if e != api.OK {
		t.Fatal(x, n, out, e)
	}
	return out
}
