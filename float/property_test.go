package float_test

import (
	"slices"
	"testing"

	"pennyfall/api"
	"pennyfall/float"
)

// P10.14: with the last kind, and without it.
func TestCounted(t *testing.T) {
	c := chance{at: 12}
	for i, coins := range all() {
		without := coins[:len(coins)-1]
		for _, amount := range c.amounts(i, coins) {
			var all int64
			if len(without) > 0 {
				all = told(t, float.Ways, without, amount)
			} else if amount == 0 { // without any kind, in the one way of no coins
				all = 1
			}
			if left := amount - last(coins); left >= 0 {
				all += told(t, float.Ways, coins, left)
			}
			if ways := told(t, float.Ways, coins, amount); ways != all {
				t.Fatal(coins, amount, ways, all)
			}
		}
	}
}

// P10.15: two amounts together.
func TestAdded(t *testing.T) {
	c, fewer, as := chance{at: 13}, 0, 0
	for _, coins := range all() {
		for range 30 {
			one := c.from(0, most)
			other := c.from(0, most-one)
			m, e := float.Fewest(coins, one)
			n, f := float.Fewest(coins, other)
			if e != api.OK || f != api.OK {
				continue
			}
			both := told(t, float.Fewest, coins, one+other)
			if both > m+n {
				t.Fatal(coins, one, other, m, n, both)
			}
			if both < m+n {
				fewer++
			} else {
				as++
			}
		}
	}
	if min(fewer, as) < 3000 {
		t.Error("too few of a kind:", fewer, as)
	}
}

// P10.15: as many times as great.
func TestScaled(t *testing.T) {
	c, many := chance{at: 14}, 0
	for i, coins := range all() {
		for times := int64(2); times*last(coins) <= api.MaxFloatCoin; times++ {
			for _, amount := range c.amounts(i, coins) {
				if times*amount > most {
					continue
				}
				many++
				fewest, e := float.Fewest(coins, amount)
				n, f := float.Fewest(multiples(coins, times), times*amount)
				if n != fewest || f != e {
					t.Fatal(coins, times, amount, fewest, e, n, f)
				}
			}
		}
	}
	if many < 10000 {
		t.Error("too few:", many)
	}
}

// P10.16: one more kind.
func TestMoreKinds(t *testing.T) {
	c, fewer, found, moreWays := chance{at: 15}, 0, 0, 0
	for i, coins := range all() {
		more := with(coins, c.from(1, api.MaxFloatCoin))
		if len(more) == len(coins) {
			continue
		}
		for _, amount := range c.amounts(i, coins) {
			fewest, e := float.Fewest(coins, amount)
			n, f := float.Fewest(more, amount)
			if e == api.OK && (f != api.OK || n > fewest) {
				t.Fatal(coins, more, amount, fewest, n, f)
			}
			if e == api.OK && n < fewest {
				fewer++
			}
			if e != f {
				found++
			}
			ways, m := told(t, float.Ways, coins, amount), told(t, float.Ways, more, amount)
			if m < ways {
				t.Fatal(coins, more, amount, ways, m)
			}
			if m > ways {
				moreWays++
			}
		}
	}
	if min(fewer, found, moreWays) < 1000 {
		t.Error("too few of a kind:", fewer, found, moreWays)
	}
}

// more returns a stock that has more of some kinds.
func (c *chance) more(stock []int64) []int64 {
	out := slices.Clone(stock)
	for i := range out {
		out[i] = c.from(out[i], min(out[i]+3, api.MaxFloatStock))
	}
	return out
}

// P10.17: no fewer coins than without a bound, and no more with more in stock.
func TestMoreStock(t *testing.T) {
	c, more, fewer, none := chance{at: 16}, 0, 0, 0
	for _, coins := range all() {
		for range 20 {
			stock := c.stock(coins)
			rich := c.more(stock)
			amount := c.from(0, min(amountOf(coins, stock), most))
			change, e := float.Pay(coins, stock, amount)
			best, f := float.Pay(coins, rich, amount)
			if e != api.OK {
				if f == api.OK {
					none++
				}
				continue
			}
			fewest := told(t, float.Fewest, coins, amount)
			if sum(change) < fewest || f != api.OK || sum(best) > sum(change) {
				t.Fatal(coins, stock, amount, change, fewest, rich, best, f)
			}
			if sum(change) > fewest {
				more++
			}
			if sum(best) < sum(change) {
				fewer++
			}
		}
	}
	if min(more, fewer, none) < 1000 {
		t.Error("too few of a kind:", more, fewer, none)
	}
}

// P10.17: as much in stock as the best change has.
func TestStockOfBest(t *testing.T) {
	c, many := chance{at: 17}, 0
	for _, coins := range all() {
		for range 20 {
			amount := c.from(0, most)
			best, e := float.Change(coins, amount)
			if e != api.OK || slices.Max(best) > api.MaxFloatStock {
				continue
			}
			many++
			for _, stock := range [][]int64{best, c.more(best)} {
				if change, e := float.Pay(coins, stock, amount); !slices.Equal(change, best) || e != api.OK {
					t.Fatal(coins, stock, amount, change, e, best)
				}
			}
		}
	}
	if many < 5000 {
		t.Error("too few:", many)
	}
}

// P10.17: what is left of all that a float has.
func TestLeftOfAll(t *testing.T) {
	c, many := chance{at: 18}, 0
	for _, coins := range all() {
		for range 20 {
			stock := c.stock(coins)
			whole := amountOf(coins, stock)
			amount := c.from(max(whole-most, 0), max(min(whole, most), max(whole-most, 0)))
			change, e := float.Pay(coins, stock, amount)
			if e != api.OK { // some are beyond the limit
				continue
			}
			many++
			left := slices.Clone(stock)
			for i := range left {
				left[i] -= change[i]
			}
			rest, e := float.Pay(coins, stock, whole-amount)
			if amountOf(coins, left) != whole-amount || e != api.OK || sum(rest) > sum(stock)-sum(change) {
				t.Fatal(coins, stock, amount, change, left, rest, e)
			}
		}
	}
	if many < 5000 {
		t.Error("too few:", many)
	}
}
