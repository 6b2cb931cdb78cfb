package pins_test

import (
	"math"
	"reflect"
	"slices"
	"testing"

	"pennyfall/api"
	"pennyfall/pins"
)

// P2.1: examples of the chapter, and others.
func TestWaysOfSome(t *testing.T) {
	for i, c := range []struct {
		b     api.PinsBoard
		level int
		ways  []int64
		pay   api.Ratio
	}{
		{boardB(), 0, longs(35, 25, 40), by(31, 10)},
		{boardB(), 2, longs(15, 15, 70), by(9, 2)},
		{boardB(), -5, longs(100, 0, 0), by(2, 1)},
		{boardB(), 4, longs(3, 7, 90), by(273, 50)},
		{boardB(), 5, longs(0, 0, 100), by(6, 1)},
		{board(longs(0, 0), 4), 1, longs(5, 5), by(0, 1)},
		{board(longs(500, 0), 10), 0, longs(0, 10), by(0, 1)},
		{board(longs(500, 0), 10), -5, longs(5, 5), by(250, 1)},
		{board(longs(500, 0), 8), 5, longs(0, 10), by(0, 1)},
		{board(longs(500, 1), 2), -3, longs(10, 0), by(500, 1)},
		{board(longs(1, 0), 7), 0, longs(3, 7), by(3, 10)},
		{even(8, 10, 500), 5, longs(0, 0, 0, 0, 0, 0, 0, 0, 100000000), by(500, 1)},
		{even(8, 5, 1), 0, longs(390625, 3125000, 10937500, 21875000, 27343750, 21875000, 10937500, 3125000, 390625), by(1, 1)},
	} {
		if ways := mustWays(t, c.b, c.level); !slices.Equal(ways, c.ways) {
			t.Error(i, ways)
		}
		if pay, e := pins.Pay(c.b, c.level); pay != c.pay || e != api.OK {
			t.Error(i, pay, e)
		}
	}
}

// P2.1 and P2.3: fall by fall, on small boards.
func TestFallByFall(t *testing.T) {
	for _, b := range boards() {
		if len(b.Pins) > 3 {
			continue
		}
		for _, level := range levels() {
			ways, byPath, sum := make([]int64, len(b.Pays)), map[[3]int]int64{}, int64(0)
			eachFall(b, level, func(path []int) {
				slot, key := 0, [3]int{}
				for row, side := range path {
					slot += side
					key[row] = side
				}
				ways[slot]++
				byPath[key]++
				sum += b.Pays[slot]
			})
			if got := mustWays(t, b, level); !slices.Equal(got, ways) {
				t.Fatal(b, level, got, ways)
			}
			if got := rat(by(sum, power(len(b.Pins)))); got.Cmp(mustPay(t, b, level)) != 0 {
				t.Fatal(b, level, got)
			}
			eachPath(b, level, 0, 0, func(path []int, _ int64) {
				key := [3]int{}
				copy(key[:], path)
				if got := mustFalls(t, b, level, path); got != byPath[key] {
					t.Fatal(b, level, path, got)
				}
			})
		}
	}
}

// P2.1: path by path, on all boards.
func TestWaysAndPay(t *testing.T) {
	for _, b := range boards() {
		for _, level := range levels() {
			if got := mustWays(t, b, level); !slices.Equal(got, waysOf(b, level, 0, 0)) {
				t.Fatal(b, level, got)
			}
			if got := mustPay(t, b, level); got.Cmp(payOf(b, level)) != 0 {
				t.Fatal(b, level, got)
			}
		}
	}
}

// P2.2
func TestBackOfSome(t *testing.T) {
	for i, c := range []struct {
		b           api.PinsBoard
		level, slot int
		back        [][]int64
	}{
		{boardB(), 0, 1, [][]int64{{25}, {3, 2}}},
		{boardB(), 0, 0, [][]int64{{35}, {7, 0}}},
		{boardB(), 0, 2, [][]int64{{40}, {0, 8}}},
		{boardB(), -5, 1, [][]int64{{0}, {0, 7}}},
		{boardB(), 5, 0, [][]int64{{0}, {2, 0}}},
		{board(longs(0, 0), 4), 0, 0, [][]int64{{6}}},
		{board(longs(0, 0), 4), 0, 1, [][]int64{{4}}},
		{board(longs(0, 0, 0, 0), 10, 5, 5, 5, 5, 5), 0, 0, [][]int64{{0}, {25, 0}, {5, 0, 0}}},
	} {
		if back := mustBack(t, c.b, c.level, c.slot); !reflect.DeepEqual(back, c.back) {
			t.Error(i, back)
		}
	}
	for _, b := range []api.PinsBoard{boardB(), even(1, 5, 5), even(8, 5, 5)} {
		for _, slot := range ints(-1, len(b.Pins)+1, math.MinInt, math.MaxInt) {
			if back, e := pins.Back(b, 0, slot); len(back) != 0 || e != api.ErrRange {
				t.Error(slot, back, e)
			}
			if _, e := pins.Back(b, 6, slot); e != api.ErrArg {
				t.Error(slot, e)
			}
		}
	}
}

// P2.2 and P2.9: path by path, from each pin.
func TestBack(t *testing.T) {
	for _, b := range boards() {
		for _, level := range ints(-5, -2, 0, 1, 5) {
			for slot := range b.Pays {
				back := mustBack(t, b, level, slot)
				if len(back) != len(b.Pins) {
					t.Fatal(b, level, slot, back)
				}
				for row, list := range back {
					if len(list) != len(b.Pins[row]) {
						t.Fatal(b, level, slot, back)
					}
					for index, many := range list {
						if many != waysOf(b, level, row, index)[slot] {
							t.Fatal(b, level, slot, row, index, many)
						}
					}
				}
			}
		}
	}
}

// P2.3
func TestFallsOfSome(t *testing.T) {
	for i, c := range []struct {
		b     api.PinsBoard
		level int
		path  []int
		falls int64
		e     api.Errno
	}{
		{boardB(), 0, ints(1, 1), 40, api.OK},
		{boardB(), 0, ints(0, 1), 15, api.OK},
		{boardB(), 0, ints(0, 0), 35, api.OK},
		{boardB(), 0, ints(1, 0), 10, api.OK},
		{boardB(), -5, ints(1, 1), 0, api.OK},
		{boardB(), -5, ints(1, 0), 0, api.OK},
		{even(8, 10, 0), 5, ints(1, 1, 1, 1, 1, 1, 1, 1), 100000000, api.OK},
		{even(8, 10, 0), 5, ints(0, 1, 1, 1, 1, 1, 1, 1), 0, api.OK},
		{even(8, 10, 0), 5, ints(1, 1, 1, 1, 1, 1, 1, 0), 0, api.OK},
		{boardB(), 0, ints(2, 0), 0, api.ErrRange},
		{boardB(), 0, ints(0, 2), 0, api.ErrRange},
		{boardB(), 0, ints(0, -1), 0, api.ErrRange},
		{boardB(), 0, ints(math.MinInt, 0), 0, api.ErrRange},
		{boardB(), 0, ints(math.MaxInt, 0), 0, api.ErrRange},
		{boardB(), 0, ints(1), 0, api.ErrEqual},
		{boardB(), 0, ints(1, 1, 1), 0, api.ErrEqual},
		{boardB(), 0, nil, 0, api.ErrEqual},
		{boardB(), 0, ints(2), 0, api.ErrEqual},
		{boardB(), 0, ints(2, -1, 5), 0, api.ErrEqual},
		{boardB(), 6, ints(2), 0, api.ErrArg},
		{boardB(), -6, ints(2, 2), 0, api.ErrArg},
	} {
		if falls, e := pins.Falls(c.b, c.level, c.path); falls != c.falls || e != c.e {
			t.Error(i, falls, e)
		}
	}
}

// P2.3: of several paths with the most falls the first one is meant.
func TestPathOfSome(t *testing.T) {
	for i, c := range []struct {
		b     api.PinsBoard
		level int
		path  []int
	}{
		{boardB(), 0, ints(1, 1)},
		{boardB(), -5, ints(0, 0)},
		{board(longs(0, 0), 5), 0, ints(0)},
		{board(longs(0, 0), 5), 1, ints(1)},
		{even(8, 5, 0), 0, ints(0, 0, 0, 0, 0, 0, 0, 0)},
		{even(8, 5, 0), 1, ints(1, 1, 1, 1, 1, 1, 1, 1)},
		// both 0 1 and 1 0 have 42 falls
		{board(longs(0, 0, 0), 4, 7, 3), 0, ints(0, 1)},
		// 0 1 and 1 1 have 40 falls each
		{board(longs(0, 0, 0), 5, 8, 8), 0, ints(0, 1)},
		// the side that most ways of the first pin lead to is not the best one
		{board(longs(0, 0, 0), 6, 10, 5), 0, ints(0, 1)},
	} {
		if path, e := pins.Path(c.b, c.level); !slices.Equal(path, c.path) || e != api.OK {
			t.Error(i, path, e)
		}
	}
}

// P2.3: against all paths.
func TestPath(t *testing.T) {
	for _, b := range boards() {
		for _, level := range levels() {
			most, want := int64(-1), []int(nil)
			eachPath(b, level, 0, 0, func(path []int, falls int64) {
				if falls > most {
					most, want = falls, path
				}
				if got := mustFalls(t, b, level, path); got != falls {
					t.Fatal(b, level, path, got)
				}
			})
			if path, e := pins.Path(b, level); !slices.Equal(path, want) || e != api.OK {
				t.Fatal(b, level, path, e)
			}
		}
	}
}
