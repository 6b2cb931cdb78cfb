package round

import (
	"iter"
	"slices"

	"pennyfall/api"
)

// time lets only some stops have a To.
func (w *walk) time(stops []int) {
	clear(w.timed[:])
	for _, stop := range stops {
		w.timed[stop] = true
	}
}

// clash returns the first list of stops that clash, or ErrNone if there is none.
func (w *walk) clash(lists iter.Seq[[]int]) ([]int, api.Errno) {
	all := slices.Collect(w.trips())
search:
	for list := range lists {
		w.time(list)
		for _, t := range all {
			if w.isInTime(t) {
				continue search
			}
		}
		return list, api.OK
	}
	return nil, api.ErrNone
}

// choices yields all lists of some of so many stops, strictly increasing: those of
// fewer stops first, those of as many in lexicographic order.
func choices(many int) iter.Seq[[]int] {
	return func(yield func(list []int) bool) {
		waiting := [][]int{nil}
		for len(waiting) > 0 {
			list := waiting[0]
			waiting = waiting[1:]
			if !yield(list) {
				return
			}
			next := 0
			if len(list) > 0 {
				next = list[len(list)-1] + 1
			}
			for ; next < many; next++ {
				waiting = append(waiting, append(list[:len(list):len(list)], next))
			}
		}
	}
}
