package drum_test

import (
	"slices"

	"pennyfall/api"
)

// chance is numbers that seem to be chance, and are the same in each run.
type chance struct{ at uint64 }

func (c *chance) below(n int) int {
	c.at = c.at*6364136223846793005 + 1442695040888963407
	return int((c.at >> 33) % uint64(n))
}

// from returns a number from least to most.
func (c *chance) from(least, most int) int { return least + c.below(most-least+1) }

// oneOf returns some element.
func oneOf[T any](c *chance, list []T) T { return list[c.below(len(list))] }

// bits returns so many numbers, of so many of which one is 1.
func (c *chance) bits(many, rare int) []int {
	out := zeros(many)
	for i := range out {
		if c.below(rare) == 0 {
			out[i] = 1
		}
	}
	return out
}

// drum returns one with so many places.
func (c *chance) drum(places int) api.DrumShift {
	d := shift(c.bits(places, c.from(2, 4)), c.bits(places, c.from(2, 4)))
	if places > 0 && c.below(3) > 0 { // then all plays come again
		d.Feed[places-1] = 1
	}
	return d
}

// row returns one of up to so many plays: of any kind, of a drum with few places, one
// that such a drum makes but for a play, or one that begins late.
func (c *chance) row(most int) []int {
	many := c.from(0, most)
	switch c.below(4) {
	case 0:
		return c.bits(many, c.from(2, 6))
	case 1:
		return playsOf(c.drum(c.from(0, (many+1)/2)), many)
	case 2:
		out := playsOf(c.drum(c.from(0, (many+1)/2)), many)
		if many > 0 {
			out[c.below(many)] ^= 1
		}
		return out
	}
	begin := c.from(0, many)
	return append(zeros(begin), c.bits(many-begin, 2)...)
}

// longRows returns rows up to the limit, the longest ones among them.
func longRows() [][]int {
	c := chance{at: 1}
	out := [][]int{zeros(40), ones(40), late(40), late(39), late(20), late(21), late(22),
		slices.Concat(zeros(19), ones(1), zeros(20)), slices.Concat(zeros(20), ones(1), zeros(19)),
		slices.Concat(ones(39), zeros(1)), slices.Concat(ones(1), zeros(39)), slices.Repeat(ints(0, 1), 20)}
	for range 2000 {
		out = append(out, c.row(api.MaxDrumWins), c.bits(api.MaxDrumWins, 2))
	}
	return out
}

// longDrums returns drums up to a number of places.
func longDrums(places int) []api.DrumShift {
	c := chance{at: 2}
	out := []api.DrumShift{
		shift(zeros(places), zeros(places)), shift(ones(places), ones(places)),
		shift(zeros(places), ones(places)), shift(late(places), late(places)),
		shift(late(places), zeros(places)), shift(zeros(places), late(places)),
	}
	for range 1000 {
		out = append(out, c.drum(c.from(0, places)), c.drum(places))
	}
	return out
}
