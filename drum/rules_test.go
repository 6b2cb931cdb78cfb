package drum_test

import (
	"math"
	"reflect"
	"slices"
	"sync"
	"testing"

	"pennyfall/api"
	"pennyfall/drum"
)

// asked is the arguments of all functions.
type asked struct {
	row, proof   []int
	d, other     api.DrumShift
	many, places int
}

// answer is what a function returns.
type answer struct {
	List  []int
	Drum  api.DrumShift
	One   int64
	More  int
	Error api.Errno
}

func (a answer) isZero() bool {
	return len(a.List) == 0 && isZeroDrum(a.Drum) && a.One == 0 && a.More == 0
}

// failed is the answer of a function that returns just an error, list that of one that
// returns a list, made that of one that returns a drum.
func failed(e api.Errno) answer { return answer{Error: e} }

func list(all []int, e api.Errno) answer { return answer{List: append(ints(), all...), Error: e} }

func made(d api.DrumShift, e api.Errno) answer {
	return answer{Drum: shift(append(ints(), d.Feed...), append(ints(), d.First...)), Error: e}
}

func (q asked) answers() []answer {
	places, e := drum.Places(q.row)
	count, f := drum.Count(q.row)
	beginning, round, g := drum.Round(q.d)
	return []answer{
		failed(drum.CheckRow(q.row)),
		failed(drum.CheckDrum(q.d)),
		list(drum.Run(q.d, q.many)),
		failed(drum.Makes(q.d, q.row)),
		{One: int64(places), Error: e},
		list(drum.Profile(q.row)),
		made(drum.Shortest(q.row)),
		{One: count, Error: f},
		list(drum.Next(q.row, q.many)),
		failed(drum.CheckProof(q.row, q.places, q.proof)),
		list(drum.Proof(q.row)),
		{One: int64(beginning), More: round, Error: g},
		made(drum.Together(q.d, q.other)),
	}
}

func equal(a, b []answer) bool { return reflect.DeepEqual(a, b) }

// valid returns arguments that are valid, with a row.
func (c *chance) valid(row []int) asked {
	places, _ := drum.Places(row)
	proof, _ := drum.Proof(row)
	q := asked{row: slices.Clone(row), proof: proof, many: c.from(0, api.MaxDrumPlays), places: max(places-1, 0)}
	q.d, q.other = c.drum(c.from(0, 9)), c.drum(c.from(0, 31))
	if c.below(3) == 0 {
		q.d, _ = drum.Shortest(row)
		q.other = c.drum(api.MaxDrumPlaces - len(q.d.Feed))
	}
	return q
}

// spoiled returns a list of which an element, or the end, may be another one.
func (c *chance) spoiled(list []int, x int) []int {
	list = slices.Clone(list)
	switch c.below(8) {
	case 0:
		return append(list[:c.below(len(list)+1)], slices.Repeat(ints(x), c.below(45))...)
	case 1:
		if len(list) > 0 {
			list[c.below(len(list))] = x
		}
	}
	return list
}

// invalid changes arguments that are valid in several ways.
func (c *chance) invalid(q asked) asked {
	extreme := ints(math.MinInt, -1, 0, 1, 2, 3, 12, 13, 39, 40, 41, 99, 100, 101, math.MaxInt)
	number := func() int { return oneOf(c, extreme) }
	bit := func() int { return oneOf(c, ints(0, 1, number())) }
	if c.below(4) == 0 {
		q.many = number()
	}
	if c.below(4) == 0 {
		q.places = number()
	}
	q.row, q.proof = c.spoiled(q.row, bit()), c.spoiled(q.proof, number())
	q.d = shift(c.spoiled(q.d.Feed, bit()), c.spoiled(q.d.First, bit()))
	q.other = shift(c.spoiled(q.other.Feed, bit()), c.spoiled(q.other.First, bit()))
	if c.below(4) == 0 {
		q.other.First = zeros(len(q.other.Feed))
	}
	return q
}

// P1 and R2: whatever the arguments are, all functions end and do not panic; with
// an error all other results are zero values.
func TestAnyArguments(t *testing.T) {
	c, met := chance{at: 9}, map[api.Errno]int{}
	for _, row := range longRows() {
		q := c.invalid(c.valid(row))
		for i, answer := range q.answers() {
			met[answer.Error]++
			if answer.Error != api.OK && !answer.isZero() {
				t.Fatal(q, i, answer)
			}
		}
	}
	for _, e := range []api.Errno{
		api.OK, api.ErrArg, api.ErrRange, api.ErrNone, api.ErrMany, api.ErrSum, api.ErrEqual, api.ErrDrum,
	} {
		if met[e] < 50 {
			t.Error("too few with an error:", e, met[e])
		}
	}
	if len(met) != 8 {
		t.Error("other errors than those of the chapter:", met)
	}
}

// R3: a nil list is an empty one.
func TestNilAndEmpty(t *testing.T) {
	for _, row := range append(rowsUpTo(4), nil) {
		for _, d := range drumsUpTo(2) {
			nils := asked{row: row, d: d}
			empties := asked{row: append(ints(), row...), proof: ints(), d: d, other: shift(ints(), ints())}
			if len(d.Feed) == 0 {
				nils.d, empties.d = api.DrumShift{}, shift(ints(), nil)
			}
			if !equal(nils.answers(), empties.answers()) {
				t.Fatal(row, d, nils.answers(), empties.answers())
			}
		}
	}
}

func (q asked) cloned() asked {
	q.row, q.proof = slices.Clone(q.row), slices.Clone(q.proof)
	q.d, q.other = clonedDrum(q.d), clonedDrum(q.other)
	return q
}

func (q asked) same(r asked) bool {
	return slices.Equal(q.row, r.row) && slices.Equal(q.proof, r.proof) && equalDrums(q.d, r.d) && equalDrums(q.other, r.other)
}

// roomy returns a list with much room behind its end.
func roomy(list []int) []int {
	return append(slices.Clone(list), slices.Repeat(ints(77), 150)...)[:len(list)]
}

func isRoomy(list []int) bool {
	return slices.Equal(list[len(list):len(list)+150], slices.Repeat(ints(77), 150))
}

// R4: no argument is changed, not even behind the end of a list.
func TestArgumentsStay(t *testing.T) {
	c := chance{at: 10}
	for _, row := range longRows() {
		q := c.valid(row)
		before := q.cloned()
		lists := []*[]int{&q.row, &q.proof, &q.d.Feed, &q.d.First, &q.other.Feed, &q.other.First}
		for _, list := range lists {
			*list = roomy(*list)
		}
		q.answers()
		for i, list := range lists {
			if !isRoomy(*list) {
				t.Fatal(before, q, i)
			}
		}
		if !q.same(before) {
			t.Fatal(before, q)
		}
	}
}

// spoil changes all elements of a list, and those behind its end.
func spoil(list []int) {
	list = list[:cap(list)]
	for i := range list {
		list[i] = 99
	}
}

// R4 and R10: a result that is changed changes no other one, and no argument.
func TestResultsAreApart(t *testing.T) {
	c := chance{at: 11}
	for i, row := range longRows() {
		if i%3 > 0 {
			continue
		}
		q := c.valid(row)
		before, first := q.cloned(), q.answers()
		run, _ := drum.Run(q.d, q.many)
		few, _ := drum.Run(q.d, len(q.d.First)/2)
		profile, _ := drum.Profile(q.row)
		next, _ := drum.Next(q.row, q.many)
		proof, _ := drum.Proof(q.row)
		shortest, _ := drum.Shortest(q.row)
		both, _ := drum.Together(q.d, q.other)
		spoil(shortest.First)
		spoil(both.First)
		if slices.Contains(shortest.Feed, 99) || slices.Contains(both.Feed, 99) {
			t.Fatal(before, shortest, both)
		}
		for _, list := range [][]int{run, few, profile, next, proof, shortest.Feed, both.Feed} {
			spoil(list)
		}
		if !q.same(before) || !equal(q.answers(), first) {
			t.Fatal(before, q)
		}
	}
}

// R9 and R10: equal calls return equal results, in whatever order and at once.
func TestAgain(t *testing.T) {
	c := chance{at: 12}
	var list []asked
	var want [][]answer
	for i, row := range longRows() {
		if i%10 == 0 {
			q := c.valid(row)
			list, want = append(list, q), append(want, q.answers())
		}
	}
	var wait sync.WaitGroup
	for from := range 8 {
		wait.Go(func() {
			for k := range list {
				i := (k*7 + from*13) % len(list)
				if got := list[i].answers(); !equal(got, want[i]) {
					t.Error(list[i], got, want[i])
				}
			}
		})
	}
	wait.Wait()
}
