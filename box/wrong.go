package box

import (
	"slices"

	"pennyfall/api"
)

// wrong is readings that are taken to be wrong.
type wrong []int

func (w wrong) isRight(reading int) bool { return !slices.Contains(w, reading) }

// canBeWrong tells whether some truth agrees with all readings but these, and
// finds one if so.
func (d *desk) canBeWrong(readings []int) bool {
	d.lay(wrong(readings).isRight)
	d.settle()
	return d.isSettled()
}

// fewest returns the first of the fewest readings that can be wrong together, and
// all lists of as many readings, in lexicographic order. There is one, as all
// readings can be wrong together.
func (d *desk) fewest() ([]int, [][]int) {
	lists := [][]int{nil}
	for {
		if list, ok := first(lists, d.canBeWrong); ok {
			return list, lists
		}
		lists = longer(lists, len(d.readings))
	}
}

// longer returns all lists that have one more element behind those of some list,
// greater than these and less than most; they are in lexicographic order if the
// lists are.
func longer(lists [][]int, most int) [][]int {
	var out [][]int
	for _, list := range lists {
		from := 0
		if len(list) > 0 {
			from = list[len(list)-1] + 1
		}
		for x := from; x < most; x++ {
			out = append(out, append(list[:len(list):len(list)], x))
		}
	}
	return out
}

// first returns the first element that is good, and whether there is one.
func first[T any](list []T, good func(x T) bool) (T, bool) {
	for _, x := range list {
		if good(x) {
			return x, true
		}
	}
	var none T
	return none, false
}

// kind returns whether a reading is in each of the fewest, in some or in none.
func (d *desk) kind(reading int) int {
	_, lists := d.fewest()
	_, with := first(lists, func(list []int) bool {
		return slices.Contains(list, reading) && d.canBeWrong(list)
	})
	_, without := first(lists, func(list []int) bool {
		return !slices.Contains(list, reading) && d.canBeWrong(list)
	})
	switch {
	case !with:
		return api.BoxNever
	case !without:
		return api.BoxAlways
	}
	return api.BoxMay
}
