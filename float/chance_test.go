package float_test

import (
	"slices"

	"pennyfall/api"
)

// chance is numbers that seem to be chance, and are the same in each run.
type chance struct{ at uint64 }

func (c *chance) below(n int) int {
	c.at = c.at*6364136223846793005 + 1442695040888963407
	return int((c.at >> 33) % uint64(n))
}

func (c *chance) from(least, most int64) int64 {
	return least + int64(c.below(int(most-least)+1))
}

// oneOf returns some element.
func oneOf[T any](c *chance, list []T) T { return list[c.below(len(list))] }

// coins returns as many different values as there are from least to most, or up to
// so many kinds.
func (c *chance) coins(kinds int, least, most int64) []int64 {
	var out []int64
	for len(out) < min(kinds, int(most-least)+1) {
		if value := c.from(least, most); !slices.Contains(out, value) {
			out = append(out, value)
		}
	}
	slices.Sort(out)
	return out
}

// kinds returns how many there may be.
func (c *chance) kinds() int { return int(c.from(1, api.MaxFloatKinds)) }

// with returns coins with a value, if there are not too many kinds then.
func with(coins []int64, value int64) []int64 {
	if len(coins) == api.MaxFloatKinds || slices.Contains(coins, value) {
		return coins
	}
	out := append(slices.Clone(coins), value)
	slices.Sort(out)
	return out
}

// multiples returns coins each value of which is as many times as great.
func multiples(coins []int64, times int64) []int64 {
	out := slices.Clone(coins)
	for i := range out {
		out[i] *= times
	}
	return out
}

// doubled returns coins from 1 on, each about twice or three times as great as the
// one before it, as they are in use.
func (c *chance) doubled() []int64 {
	out := nums(1)
	for len(out) < api.MaxFloatKinds {
		value := last(out)*c.from(2, 3) + c.from(-1, 1)
		if value <= last(out) || value > api.MaxFloatCoin {
			break
		}
		out = append(out, value)
	}
	return out
}

// even returns coins with as much between any two: many amounts have several changes
// with the fewest coins.
func (c *chance) even() []int64 {
	out, step := nums(c.from(1, 12)), c.from(1, 9)
	for len(out) < c.kinds()+1 && len(out) < api.MaxFloatKinds {
		out = append(out, last(out)+step)
	}
	return out
}

// lists returns all coins from a value on, with up to so many kinds, behind some.
func lists(coins []int64, from, most int64, kinds int) [][]int64 {
	var out [][]int64
	if len(coins) > 0 {
		out = append(out, coins)
	}
	for value := from; value <= most && len(coins) < kinds; value++ {
		longer := append(slices.Clone(coins), value)
		out = append(out, lists(longer, value+1, most, kinds)...)
	}
	return out
}

// small returns all coins with values up to 8.
func small() [][]int64 { return lists(nil, 1, 8, api.MaxFloatKinds) }

// great returns coins of chance, up to the limits.
func great() [][]int64 {
	c := chance{at: 1}
	out := [][]int64{coinsK(), coinsT(), coinsE(), nums(50), nums(49, 50), nums(46, 47, 48, 49, 50), nums(1, 50)}
	for range 70 {
		divided := c.from(2, 12)
		out = append(out,
			c.coins(c.kinds(), 1, api.MaxFloatCoin),
			with(c.coins(c.kinds()-1, 2, api.MaxFloatCoin), 1),
			with(c.coins(c.kinds()-1, 2, 20), 1),
			c.coins(c.kinds(), 1, 15),
			c.coins(c.kinds(), 25, api.MaxFloatCoin),
			multiples(c.coins(c.kinds(), 1, api.MaxFloatCoin/divided), divided),
			c.doubled(),
			c.even(),
		)
	}
	return out
}

func all() [][]int64 { return append(small(), great()...) }

// pairs returns all coins of two kinds.
func pairs() [][]int64 {
	return slices.DeleteFunc(lists(nil, 1, api.MaxFloatCoin, 2), func(coins []int64) bool { return len(coins) < 2 })
}

// amounts returns some for coins: all of each tenth one, otherwise small ones, those
// about values, some of chance, and the greatest one.
func (c *chance) amounts(at int, coins []int64) []int64 {
	var out []int64
	if at%10 == 0 {
		for amount := range int64(most + 1) {
			out = append(out, amount)
		}
		return out
	}
	out = nums(0, 1, 2, 3, 4, 5, 6, 8, most)
	for _, value := range coins {
		out = append(out, value-1, value, value+1, 2*value)
	}
	for range 12 {
		out = append(out, c.from(7, 60), c.from(61, most))
	}
	return out
}

// stock returns one for coins, from nothing to much.
func (c *chance) stock(coins []int64) []int64 {
	top := oneOf(c, nums(1, 2, 4, 8, api.MaxFloatStock))
	var out []int64
	for range coins {
		out = append(out, c.from(0, top))
	}
	return out
}
