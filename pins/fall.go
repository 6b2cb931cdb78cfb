package pins

import (
	"slices"

	"pennyfall/api"
)

// counts is what comes to each pin of a row, or to each slot.
type counts [api.MaxPinsRows + 1]int64

// pin is a pin of a row; a slot is one of the row behind the last one.
type pin struct {
	row, index int
}

// ways returns how many falls come to each slot.
func (f frame) ways() counts {
	return f.fall(func(row, side int) bool { return true })
}

// along returns how many falls a path has.
func (f frame) along(path []int) int64 {
	sum := int64(0)
	for _, many := range f.fall(func(row, side int) bool { return path[row] == side }) {
		sum += many
	}
	return sum
}

// fall returns how many falls come to each slot, of those that go, in each row,
// only to a side that is open there.
func (f frame) fall(open func(row, side int) bool) counts {
	at, sums := counts{1}, counts{}
	for row, pins := range f.Pins {
		if at == (counts{}) {
			break
		}
		clear(sums[:])
		for index := range pins {
			for side := range sides {
				if open(row, side) {
					sums[index+side] += at[index] * f.turns(pin{row, index}, side)
				}
			}
		}
		at = sums
	}
	return at
}

// leading returns how many ways lead from a pin, and from those below it, to a
// slot; pins from which none does are not in the map.
func (f frame) leading(slot int) map[pin]int64 {
	ways := map[pin]int64{{len(f.Pins), slot}: 1}
	for row, pins := range slices.Backward(f.Pins) {
		for index := range pins {
			from := pin{row, index}
			for side := range sides {
				ways[from] += f.turns(from, side) * ways[pin{row + 1, index + side}]
			}
		}
	}
	for p, many := range ways {
		if many == 0 {
			delete(ways, p)
		}
	}
	return ways
}

// back returns for each pin of each row how many ways lead from it to a slot.
func (f frame) back(slot int) [][]int64 {
	ways := f.leading(slot)
	out := make([][]int64, len(f.Pins))
	for row, pins := range f.Pins {
		out[row] = make([]int64, len(pins))
		for index := range pins {
			out[row][index] = ways[pin{row, index}]
		}
	}
	return out
}

// reaches tells whether some fall comes to a slot.
func (f frame) reaches(slot int) bool {
	_, ok := f.leading(slot)[pin{}]
	return ok
}

// path returns the path with the most falls, the first one of several.
func (f frame) path() []int {
	return best(paths(len(f.Pins)), func(a, b []int) bool { return f.along(a) > f.along(b) })
}

// paths returns all paths over so many rows, in lexicographic order.
func paths(rows int) [][]int {
	all := [][]int{nil}
	for range rows {
		var longer [][]int
		for _, path := range all {
			for side := range sides {
				// Without the room behind the path, or one side would be
				// written over the other one.
				longer = append(longer, append(path[:len(path):len(path)], side))
			}
		}
		all = longer
	}
	return all
}
