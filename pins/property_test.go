package pins_test

import (
	"math/big"
	"slices"
	"testing"

	"pennyfall/api"
	"pennyfall/pins"
)

// P2.9: all falls come to some slot; those of all paths, and the ways back, are the same.
func TestSummed(t *testing.T) {
	for _, b := range boards() {
		for _, level := range ints(-5, -1, 0, 3, 5) {
			ways := mustWays(t, b, level)
			if add(ways) != power(len(b.Pins)) {
				t.Fatal(b, level, ways)
			}
			sums := make([][]int64, len(b.Pins))
			for slot := range b.Pays {
				back := mustBack(t, b, level, slot)
				if back[0][0] != ways[slot] {
					t.Fatal(b, level, slot, back)
				}
				for row, list := range back {
					sums[row] = append(sums[row], list...)
				}
			}
			for row, list := range sums {
				// as many numbers for each slot as the row has pins
				if len(list) != (row+1)*len(b.Pays) || add(list) != int64(row+1)*power(len(b.Pins)-row) {
					t.Fatal(b, level, row, list)
				}
				for index := range row + 1 {
					sum := int64(0)
					for at := index; at < len(list); at += row + 1 {
						sum += list[at]
					}
					if sum != power(len(b.Pins)-row) {
						t.Fatal(b, level, row, index, sum)
					}
				}
			}
		}
	}
}

// P2.9: the falls of all paths are all falls.
func TestPathsSummed(t *testing.T) {
	for _, b := range boards() {
		sum := int64(0)
		eachPath(b, 1, 0, 0, func(path []int, _ int64) { sum += mustFalls(t, b, 1, path) })
		if sum != power(len(b.Pins)) {
			t.Fatal(b, sum)
		}
	}
}

// P2.10: at a greater level no fewer falls come to a slot or one behind it.
func TestRises(t *testing.T) {
	for _, b := range boards() {
		rising := clonedBoard(b)
		slices.Sort(rising.Pays)
		for _, level := range levels()[1:] {
			before, now := mustWays(t, b, level-1), mustWays(t, b, level)
			for slot := range now {
				if add(now[slot:]) < add(before[slot:]) {
					t.Fatal(b, level, slot, before, now)
				}
			}
			if mustPay(t, rising, level).Cmp(mustPay(t, rising, level-1)) < 0 {
				t.Fatal(rising, level)
			}
		}
	}
}

// P2.11: one more reading widens nothing, and breaks no promise.
func TestNarrower(t *testing.T) {
	random := chance{at: 5}
	for _, c := range reads() {
		lo := random.below(11) - 5
		for _, more := range []api.PinsReadings{
			withPlumb(c.r, int64(lo), int64(lo+random.below(6-lo))),
			withSlot(c.r, random.below(len(c.b.Pays))),
		} {
			before, _ := pins.Levels(c.b, c.r)
			now, e := pins.Levels(c.b, more)
			for _, level := range now {
				if !slices.Contains(before, level) {
					t.Fatal(c, more, level)
				}
			}
			if e != api.OK {
				continue
			}
			low, high, e1 := pins.Span(c.b, c.r)
			a, z, e2 := pins.Span(c.b, more)
			if e1 != api.OK || e2 != api.OK || rat(a).Cmp(rat(low)) < 0 || rat(z).Cmp(rat(high)) > 0 {
				t.Fatal(c, more, low, high, a, z)
			}
			promise := by(int64(random.below(501)), 1)
			_, e1 = pins.Broken(c.b, c.r, promise)
			_, e2 = pins.Broken(c.b, more, promise)
			if e1 == api.ErrNone && e2 != api.ErrNone {
				t.Fatal(c, more, promise)
			}
		}
	}
}

// P2.12: a board that is turned pays the same at the opposite level.
func TestTurned(t *testing.T) {
	for _, b := range boards() {
		turned := clonedBoard(b)
		slices.Reverse(turned.Pays)
		for _, row := range turned.Pins {
			slices.Reverse(row)
			for index := range row {
				row[index] = 10 - row[index]
			}
		}
		for _, level := range levels() {
			ways := mustWays(t, b, level)
			slices.Reverse(ways)
			if got := mustWays(t, turned, -level); !slices.Equal(got, ways) {
				t.Fatal(b, level, got)
			}
			if mustPay(t, b, level).Cmp(mustPay(t, turned, -level)) != 0 {
				t.Fatal(b, level)
			}
		}
	}
}

// P2.13: the pay goes with the pays.
func TestPaid(t *testing.T) {
	for _, b := range boards() {
		few := clonedBoard(b)
		for slot := range few.Pays {
			few.Pays[slot] %= 101
		}
		more, times := clonedBoard(few), clonedBoard(few)
		for slot := range few.Pays {
			more.Pays[slot] += 37
			times.Pays[slot] *= 4
		}
		for _, level := range ints(-5, -2, 0, 1, 5) {
			pay := mustPay(t, few, level)
			if want := new(big.Rat).Add(pay, big.NewRat(37, 1)); mustPay(t, more, level).Cmp(want) != 0 {
				t.Fatal(more, level)
			}
			if want := new(big.Rat).Mul(pay, big.NewRat(4, 1)); mustPay(t, times, level).Cmp(want) != 0 {
				t.Fatal(times, level)
			}
		}
	}
}

// P2.14: what comes to the pins of the last row comes to the slots of a board
// without it, and goes on from there.
func TestCut(t *testing.T) {
	for _, b := range boards() {
		last := len(b.Pins) - 1
		if last == 0 {
			continue
		}
		short := api.PinsBoard{Pins: b.Pins[:last:last], Pays: b.Pays[: last+1 : last+1]}
		for _, level := range ints(-5, -1, 0, 2, 5) {
			come := mustWays(t, short, level)
			for slot, ways := range mustWays(t, b, level) {
				back, sum := mustBack(t, b, level, slot), int64(0)
				for index, many := range back[last] {
					sum += come[index] * many
				}
				if sum != ways {
					t.Fatal(b, level, slot, sum, ways)
				}
			}
		}
	}
}
