package season_test

import (
	"math"
	"slices"

	"pennyfall/api"
)

// chance is numbers that seem to be chance, and are the same in each run.
type chance struct{ at uint64 }

func (c *chance) below(n int) int {
	c.at = c.at*6364136223846793005 + 1442695040888963407
	return int((c.at >> 33) % uint64(n))
}

// from returns a number from least to most.
func (c *chance) from(least, most int) int { return least + c.below(most-least+1) }

// oneOf returns some element.
func oneOf[T any](c *chance, list []T) T { return list[c.below(len(list))] }

// entry returns one of a machine, with a number, and with an amount up to about most.
func (c *chance) entry(machine, number, most int) api.SeasonEntry {
	kind := oneOf(c, ints(coin, coin, coin, play, play, box, box, plea, back))
	switch {
	case kind == back && number > 1:
		return entry(machine, number, back, c.from(max(1, number-1-c.below(6)), number-1))
	case kind == play || kind == box:
		return entry(machine, number, kind, c.from(0, most))
	case kind == plea:
		return entry(machine, number, plea, c.from(1, most))
	}
	return entry(machine, number, coin, min(2*c.from(1, most), api.MaxSeasonAmount))
}

// season returns one with up to so many entries, of one machine or of several ones.
func (c *chance) season(many int) api.Season {
	var last [api.MaxSeasonMachine + 1]int
	from, rare, most := c.from(0, api.MaxSeasonMachine), oneOf(c, ints(3, 8, 30, 1000)), oneOf(c, ints(3, 5, 100))
	to := oneOf(c, ints(from, from, api.MaxSeasonMachine))
	var out []api.SeasonEntry
	for range many {
		machine := c.from(from, to)
		number := last[machine] + 1
		if c.below(rare) == 0 {
			number += c.from(1, 4)
		}
		if number > api.MaxSeasonNumber {
			break
		}
		last[machine] = number
		out = append(out, c.entry(machine, number, most))
	}
	return ordered(out)
}

// seasons returns some of all kinds, up to the limits.
func seasons() []api.Season {
	c := chance{at: 1}
	out := []api.Season{
		seasonS(), seasonT(), seasonJ(), {}, coins(0, 24), coins(4, 24), book(entry(4, 30, coin, 100)),
		book(entry(0, 30, back, 29)), book(entry(0, 1, box, 0), entry(4, 1, play, 0)),
	}
	for range 1500 {
		out = append(out, c.season(api.MaxSeasonEntries), c.season(c.from(0, api.MaxSeasonEntries)))
	}
	return out
}

// allWith returns all seasons of the machine 0 with Numbers up to one, and small Amounts.
func allWith(most int) []api.Season {
	out := []api.Season{{}}
	for n := range most {
		number := n + 1
		choices := []api.SeasonEntry{
			entry(0, number, coin, 1), entry(0, number, coin, 2), entry(0, number, play, 0), entry(0, number, play, 2),
			entry(0, number, box, 0), entry(0, number, box, 1), entry(0, number, plea, 1),
		}
		for amount := 1; amount < number; amount++ {
			choices = append(choices, entry(0, number, back, amount))
		}
		for _, s := range slices.Clone(out) {
			for _, e := range choices {
				out = append(out, book(append(slices.Clone(s.Entries), e)...))
			}
		}
	}
	return out
}

// part returns some of the entries of a season.
func (c *chance) part(s api.Season) api.Season {
	var out api.Season
	kept := c.from(1, 3)
	for _, e := range s.Entries {
		if c.below(4) < kept {
			out.Entries = append(out.Entries, e)
		}
	}
	return out
}

// shuffled returns a list in another order.
func shuffled[T any](c *chance, list []T) []T {
	out := slices.Clone(list)
	for i := range out {
		k := c.from(i, len(out)-1)
		out[i], out[k] = out[k], out[i]
	}
	return out
}

// changed returns a season of which an entry is another one, if there is any.
func (c *chance) changed(s api.Season) api.Season {
	s = cloned(s)
	if len(s.Entries) > 0 {
		i := c.below(len(s.Entries))
		s.Entries[i] = c.entry(s.Entries[i].Machine, s.Entries[i].Number, 7)
	}
	return s
}

// next returns an entry that a season has not, at one of its machines or at any.
func (c *chance) next(s api.Season) api.SeasonEntry {
	for {
		machine := c.from(0, api.MaxSeasonMachine)
		if len(s.Entries) > 0 && c.below(4) > 0 {
			machine = oneOf(c, s.Entries).Machine
		}
		number := c.from(1, api.MaxSeasonNumber)
		switch gaps := gapsOf(s, machine); {
		case len(gaps) > 0 && c.below(2) == 0:
			number = oneOf(c, gaps)
		case c.below(3) > 0:
			number = min(greatestOf(s, machine)+1, api.MaxSeasonNumber)
		}
		if _, ok := find(s, machine, number); !ok {
			return c.entry(machine, number, 5)
		}
	}
}

// marks returns a list of marks, about those of a season.
func (c *chance) marks(s api.Season) []int {
	out := marksOf(s)
	for i := range out {
		switch c.below(4) {
		case 0:
			out[i] = c.from(0, api.MaxSeasonNumber)
		case 1:
			out[i] = min(max(out[i]+c.from(-1, 1), 0), api.MaxSeasonNumber)
		}
	}
	return out
}

// wrong returns a season of which an entry, or the order, may be wrong.
func (c *chance) wrong(s api.Season) api.Season {
	s = cloned(s)
	if len(s.Entries) == 0 {
		return s
	}
	i, k := c.below(len(s.Entries)), c.below(len(s.Entries))
	at := &s.Entries[i]
	switch c.below(8) {
	case 0:
		at.Machine = oneOf(c, ints(math.MinInt, -1, 0, 4, 5, math.MaxInt))
	case 1:
		at.Number = oneOf(c, ints(math.MinInt, 0, 1, 30, 31, math.MaxInt))
	case 2:
		at.Kind = oneOf(c, ints(math.MinInt, -1, 0, 1, 5, 6, math.MaxInt))
	case 3:
		at.Amount = oneOf(c, ints(math.MinInt, -1, 0, 1, 100, 101, math.MaxInt))
	case 4:
		s.Entries[i], s.Entries[k] = s.Entries[k], s.Entries[i]
	case 5:
		s.Entries[i] = s.Entries[k]
	case 6:
		s.Entries = append(s.Entries, s.Entries[:k]...)
	}
	return s
}
