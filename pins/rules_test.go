package pins_test

import (
	"math"
	"reflect"
	"slices"
	"sync"
	"testing"

	"pennyfall/api"
	"pennyfall/pins"
)

// answers is what all functions return of a board and readings.
type answers struct {
	Errors []api.Errno
	Longs  [][]int64 // of Ways, Back and Falls
	Ints   [][]int   // of Path, Levels, Refuted and Broken
	Ratios []api.Ratio
}

// keep keeps one list of each kind.
func (a *answers) keep(e api.Errno, l []int64, n []int, ratios ...api.Ratio) {
	a.Errors = append(a.Errors, e)
	a.Longs = append(a.Longs, append([]int64{}, l...))
	a.Ints = append(a.Ints, append([]int{}, n...))
	a.Ratios = append(a.Ratios, ratios...)
}

func (a *answers) atLevel(b api.PinsBoard, level int) {
	ways, e := pins.Ways(b, level)
	a.keep(e, ways, nil)
	pay, e := pins.Pay(b, level)
	a.keep(e, nil, nil, pay)
	path, e := pins.Path(b, level)
	a.keep(e, nil, path)
	falls, e := pins.Falls(b, level, path)
	a.keep(e, longs(falls), nil)
	for slot := range b.Pays {
		back, e := pins.Back(b, level, slot)
		a.keep(e, slices.Concat(back...), nil)
	}
}

func answersOf(b api.PinsBoard, r api.PinsReadings, promise api.Ratio, level int, list []int) answers {
	a := answers{Errors: []api.Errno{
		pins.CheckBoard(b), pins.CheckReadings(b, r), pins.CheckRefuted(b, r, list), pins.CheckBroken(b, r, promise, level),
	}}
	a.atLevel(b, level)
	agree, e := pins.Levels(b, r)
	a.keep(e, nil, agree)
	refuted, e := pins.Refuted(b, r)
	a.keep(e, nil, refuted)
	low, high, e := pins.Span(b, r)
	a.keep(e, nil, nil, low, high)
	broken, e := pins.Broken(b, r, promise)
	a.keep(e, nil, ints(broken))
	return a
}

func (c read) answers() answers {
	return answersOf(c.b, c.r, by(200, 1), 1, make([]int, 11))
}

func (a answers) equal(b answers) bool { return reflect.DeepEqual(a, b) }

// anyRead returns a board and readings of which numbers and lengths may be wrong.
func (c *chance) anyRead() read {
	extreme := ints(math.MinInt, -6, -5, -1, 0, 1, 2, 5, 6, 8, 10, 11, 500, 501, math.MaxInt)
	number := func() int { return extreme[c.below(len(extreme))] }
	b := c.board()
	r := c.readings(b)
	switch c.below(4) {
	case 0:
		b.Pins = append(b.Pins[:c.below(len(b.Pins)+1)], ints(number(), number()))
	case 1:
		b.Pays = append(b.Pays[:c.below(len(b.Pays)+1)], int64(number()))
	case 2:
		b.Pins[0][0] = number()
	}
	switch c.below(4) {
	case 0:
		r = withPlumb(r, int64(number()), int64(number()))
	case 1:
		r = withSlot(r, number())
	case 2:
		r.Slots = slices.Repeat(ints(0), c.below(15))
	}
	return read{b, r}
}

// P1: whatever the arguments are, all functions end and do not panic.
func TestAnyArguments(t *testing.T) {
	c := chance{at: 6}
	extreme := ints(math.MinInt, -6, -5, -1, 0, 1, 5, 6, 1000000, 1000001, math.MaxInt)
	number := func() int { return extreme[c.below(len(extreme))] }
	for range 2000 {
		x := c.anyRead()
		list := slices.Repeat(ints(number()), c.below(13))
		answersOf(x.b, x.r, by(int64(number()), int64(number())), number(), list)
		pins.Falls(x.b, number(), list)
		pins.Back(x.b, number(), number())
	}
}

// R3: a nil list is an empty one.
func TestNilAndEmpty(t *testing.T) {
	for _, pair := range [][2]read{
		{{}, {b: api.PinsBoard{Pins: [][]int{}, Pays: longs()}, r: api.PinsReadings{Plumbs: []api.Range{}, Slots: ints()}}},
		{{b: boardB()}, {b: boardB(), r: api.PinsReadings{Plumbs: []api.Range{}, Slots: ints()}}},
		{{b: api.PinsBoard{Pins: [][]int{nil}, Pays: longs(1, 2)}}, {b: api.PinsBoard{Pins: [][]int{{}}, Pays: longs(1, 2)}}},
	} {
		if a, b := pair[0].answers(), pair[1].answers(); !a.equal(b) {
			t.Error(a, b)
		}
	}
	for _, list := range [][]int{nil, {}} {
		if e := pins.CheckRefuted(boardB(), readingsS(), list); e != api.ErrEqual {
			t.Error(e)
		}
		if _, e := pins.Falls(boardB(), 0, list); e != api.ErrEqual {
			t.Error(e)
		}
	}
}

// roomy returns a list with two elements of room behind its end, that are all as the last argument.
func roomy[T any](list []T, behind T) []T {
	return append(slices.Clone(list), behind, behind)[:len(list)]
}

func isRoomy[T comparable](list []T, behind T) bool {
	room := list[:len(list)+2]
	return room[len(list)] == behind && room[len(list)+1] == behind
}

// R4: no argument is changed, not even behind the end of a list.
func TestArgumentsStay(t *testing.T) {
	for _, c := range reads() {
		before := read{clonedBoard(c.b), clonedReadings(c.r)}
		b := api.PinsBoard{Pays: roomy(c.b.Pays, 77)}
		for _, row := range c.b.Pins {
			b.Pins = append(b.Pins, roomy(row, 78))
		}
		r := api.PinsReadings{Plumbs: roomy(c.r.Plumbs, api.Range{Lo: 79}), Slots: roomy(c.r.Slots, 80)}
		list, path := roomy(make([]int, 11), 81), roomy(make([]int, len(b.Pins)), 82)
		answersOf(b, r, by(7, 2), 1, list)
		pins.Falls(b, 1, path)
		if !reflect.DeepEqual(b, before.b) || !slices.Equal(r.Plumbs, before.r.Plumbs) || !slices.Equal(r.Slots, before.r.Slots) ||
			slices.Max(list) != 0 || slices.Max(path) != 0 {
			t.Fatal(c, b, r, list, path)
		}
		if !isRoomy(b.Pays, 77) || !isRoomy(r.Plumbs, api.Range{Lo: 79}) || !isRoomy(r.Slots, 80) ||
			!isRoomy(list, 81) || !isRoomy(path, 82) {
			t.Fatal(c)
		}
		for _, row := range b.Pins {
			if !isRoomy(row, 78) {
				t.Fatal(c)
			}
		}
	}
}

// R4, R9 and R10: a result that is changed changes no other one, and no argument.
func TestResultsAreApart(t *testing.T) {
	for _, c := range reads()[:60] {
		before, first := read{clonedBoard(c.b), clonedReadings(c.r)}, c.answers()
		back := mustBack(t, c.b, 1, 1)
		for row := range back {
			back[row] = append(back[row], -1)
			for index := range back[row] {
				back[row][index] = int64(-row)
			}
		}
		for row := range back {
			if slices.Min(back[row]) != int64(-row) || slices.Max(back[row]) != int64(-row) {
				t.Fatal(c, back)
			}
		}
		clear(mustWays(t, c.b, 1))
		path, _ := pins.Path(c.b, 1)
		agree, _ := pins.Levels(c.b, c.r)
		refuted, _ := pins.Refuted(c.b, c.r)
		for _, list := range [][]int{path, agree, refuted} {
			for i := range list {
				list[i] = 99
			}
		}
		if !reflect.DeepEqual(c, before) || !c.answers().equal(first) {
			t.Fatal(c)
		}
	}
}

// R9 and R10: equal calls return equal results, in whatever order and at once.
func TestAgain(t *testing.T) {
	list := reads()[:100]
	want := make([]answers, len(list))
	for i, c := range list {
		want[i] = c.answers()
	}
	var wait sync.WaitGroup
	for from := range 8 {
		wait.Go(func() {
			for k := range list {
				i := (k*7 + from*13) % len(list)
				if got := list[i].answers(); !got.equal(want[i]) {
					t.Error(list[i], got, want[i])
				}
			}
		})
	}
	wait.Wait()
}
