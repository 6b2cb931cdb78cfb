package slug_test

import (
	"slices"

	"pennyfall/api"
)

// kinds is how many coppers of each number are known, and whether all may be good.
type kinds struct {
	many [4]int
	none bool
}

func kindsOf(k api.SlugKnown) kinds {
	out := kinds{none: k.None}
	for _, may := range k.Coppers {
		out.many[may]++
	}
	return out
}

// known returns what is known of coppers in increasing order of their numbers.
func (s kinds) known() api.SlugKnown {
	out := api.SlugKnown{None: s.none}
	for may, many := range s.many {
		out.Coppers = append(out.Coppers, slices.Repeat(ints(may), many)...)
	}
	return out
}

// eachKinds calls do with all kinds of so many coppers, with some case.
func eachKinds(coppers int, do func(s kinds)) {
	eachList(3, 0, coppers, func(list []int) {
		good := coppers - list[0] - list[1] - list[2]
		if good < 0 {
			return
		}
		do(kinds{[4]int{good, list[0], list[1], list[2]}, true})
		if good < coppers {
			do(kinds{[4]int{good, list[0], list[1], list[2]}, false})
		}
	})
}

// weighings returns those of the coppers of known, in which coppers of one
// number are in the left pan first, then in the right one, then in none: other
// ones differ from these only by the order of such coppers.
func (s kinds) weighings() [][]int {
	var out [][]int
	var more func(may, left int, w []int)
	more = func(may, left int, w []int) {
		if may == len(s.many) {
			if left == 0 {
				out = append(out, slices.Clone(w))
			}
			return
		}
		for l := range s.many[may] + 1 {
			for r := range s.many[may] - l + 1 {
				next := append(w[:len(w):len(w)], slices.Repeat(ints(1), l)...)
				next = append(next, slices.Repeat(ints(-1), r)...)
				next = append(next, make([]int, s.many[may]-l-r)...)
				more(may+1, left+l-r, next)
			}
		}
	}
	more(0, 0, nil)
	return out
}

// outcome is what is learned of each result of a weighing that it has in some
// case; the others are zero values.
type outcome [3]kinds

// outcomes returns those of all weighings, each one once.
func (s kinds) outcomes() []outcome {
	k := s.known()
	seen := map[outcome]bool{}
	var out []outcome
	for _, w := range s.weighings() {
		var o outcome
		for i := range o {
			if l := learnedOf(k, w, i-1); len(casesOf(l)) > 0 {
				o[i] = kindsOf(l)
			}
		}
		if !seen[o] {
			seen[o] = true
			out = append(out, o)
		}
	}
	return out
}

// table returns the weighings that are needed for all kinds of so many coppers,
// by the definition, from the least number on; those that no number is enough for
// are not in it.
func table(coppers int) map[kinds]int {
	out, open := map[kinds]int{}, map[kinds][]outcome{}
	eachKinds(coppers, func(s kinds) {
		if len(casesOf(s.known())) == 1 {
			out[s] = 0
		} else {
			open[s] = s.outcomes()
		}
	})
	for many := 1; ; many++ {
		var now []kinds
		for s, list := range open {
			if slices.ContainsFunc(list, func(o outcome) bool { return isEnough(out, o) }) {
				now = append(now, s)
			}
		}
		if len(now) == 0 {
			return out
		}
		for _, s := range now {
			out[s] = many
			delete(open, s)
		}
	}
}

// isEnough tells whether for all that is learned a number is in the table.
func isEnough(table map[kinds]int, o outcome) bool {
	for _, s := range o {
		if _, ok := table[s]; !ok && s != (kinds{}) {
			return false
		}
	}
	return true
}
