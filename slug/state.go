package slug

import (
	"iter"

	"pennyfall/api"
)

// counts is how many coppers may be what: good, lighter, heavier or either.
type counts [either + 1]int

func (c counts) sum() int {
	out := 0
	for _, many := range c {
		out += many
	}
	return out
}

// state is what is known, but for which coppers it is known of. Two of them are
// equal just if one is the other one with the coppers in another order.
type state struct {
	many counts
	none bool
}

func stateOf(k api.SlugKnown) state {
	out := state{none: k.None}
	for _, may := range k.Coppers {
		out.many[may]++
	}
	return out
}

// cases returns how many there are.
func (s state) cases() int {
	out := s.many[api.SlugLight] + s.many[api.SlugHeavy] + 2*s.many[either]
	if s.none {
		out++
	}
	return out
}

// isTold tells whether there is just one case.
func (s state) isTold() bool {
	all := s.many.sum()
	if s.none {
		return s.many == counts{good: all}
	}
	return s.many == counts{good: all - 1, api.SlugLight: 1} ||
		s.many == counts{good: all - 1, api.SlugHeavy: 1}
}

// bound returns how many weighings the number of cases asks for.
func (s state) bound() int {
	weighings := 0
	for told := 1; told < s.cases(); told *= 3 {
		weighings++
	}
	return weighings
}

// load is a weighing, by how many coppers of each kind lie in which pan.
type load struct {
	left, right counts
}

// loads yields weighings: all of them, but for good coppers that lie in both
// pans, as these change no result.
func (s state) loads() iter.Seq[load] {
	return func(yield func(load) bool) {
		for light := range shares(s.many[api.SlugLight]) {
			for heavy := range shares(s.many[api.SlugHeavy]) {
				for unsure := range shares(s.many[either]) {
					l := load{
						left:  counts{0, light.left, heavy.left, unsure.left},
						right: counts{0, light.right, heavy.right, unsure.right},
					}
					l.fill()
					if l.left[good]+l.right[good] <= s.many[good] && !yield(l) {
						return
					}
				}
			}
		}
	}
}

// fill puts good coppers into the pan with fewer coppers until both have as many.
func (l *load) fill() {
	more := l.left.sum() - l.right.sum()
	if more > 0 {
		l.right[good] += more
	} else {
		l.left[good] -= more
	}
}

// share is how many of some coppers lie in which pan.
type share struct {
	left, right int
}

// shares yields how so many coppers can lie in the pans and beside them.
func shares(many int) iter.Seq[share] {
	return func(yield func(share) bool) {
		for left := range many + 1 {
			for right := range many - left + 1 {
				if !yield(share{left, right}) {
					return
				}
			}
		}
	}
}

// after returns what is learned of each result that a weighing has in some case.
func (s state) after(l load) []state {
	var room [3]state
	out := room[:0:len(room)]
	for _, t := range [...]state{s.level(l), s.sunk(l.left, l.right), s.sunk(l.right, l.left)} {
		if t.cases() > 0 {
			out = append(out, t)
		}
	}
	return out
}

// level returns what is learned if no pan sinks: all coppers in them are good.
func (s state) level(l load) state {
	out := s
	for may := range out.many {
		out.many[may] -= l.left[may] + l.right[may]
	}
	out.many[good] += l.left.sum() + l.right.sum()
	return out
}

// sunk returns what is learned if one pan sinks and the other one rises.
func (s state) sunk(down, up counts) state {
	light := up[api.SlugLight] + up[either]
	heavy := down[api.SlugHeavy] + down[either]
	return state{many: counts{good: s.many.sum() - light - heavy, api.SlugLight: light, api.SlugHeavy: heavy}}
}
