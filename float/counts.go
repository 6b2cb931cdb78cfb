package float

import "pennyfall/api"

// counts is how many coins there are of each kind, 0 behind the last kind.
type counts [api.MaxFloatKinds]int64

// countsOf returns the numbers of a list that has one for each kind.
func countsOf(list []int64) counts {
	var out counts
	copy(out[:], list)
	return out
}

func (c counts) areNone() bool { return c == counts{} }

// areChange tells whether change of an amount was found, if it is none where none was:
// no coins are change of 0 alone.
func (c counts) areChange(amount int64) bool { return amount == 0 || !c.areNone() }

// many returns how many coins there are of all kinds together.
func (c counts) many() int64 {
	out := int64(0)
	for _, n := range c {
		out += n
	}
	return out
}
