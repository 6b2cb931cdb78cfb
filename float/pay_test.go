package float_test

import (
	"math"
	"slices"
	"testing"

	"pennyfall/api"
	"pennyfall/float"
)

// P10.8: examples of the chapter, and others.
func TestWaysOfSome(t *testing.T) {
	for i, x := range []struct {
		coins        []int64
		amount, ways int64
		e            api.Errno
	}{
		{coinsK(), 8, 4, api.OK},
		{coinsK(), 0, 1, api.OK},
		{coinsK(), 3, 1, api.OK},
		{coinsK(), 301, 0, api.ErrRange},
		{coinsT(), 40, 2, api.OK},
		{coinsT(), 27, 0, api.OK},
		{coinsT(), 0, 1, api.OK},
		{coinsE(), 299, 0, api.OK},
		{coinsE(), 12, 2, api.OK},
		{nums(50), 300, 1, api.OK},
		{nums(50), 299, 0, api.OK},
		{nums(1), 300, 1, api.OK},
		{nums(1, 5, 10, 25, 50), 100, 292, api.OK},
		{nums(1, 2), 300, 151, api.OK},
		{nums(1, 2, 3), 300, 7651, api.OK}, // 303 times 303 by 12, rounded to the nearest
	} {
		if ways, e := float.Ways(x.coins, x.amount); ways != x.ways || e != x.e {
			t.Error(i, ways, e)
		}
	}
}

// P10.8, by the definition; and P10.14, that an amount can be paid just if there is a
// way.
func TestWays(t *testing.T) {
	c, none, many := chance{at: 10}, 0, 0
	for i, coins := range all() {
		w := tableOf(coins, endless(coins))
		for _, amount := range c.amounts(i, coins) {
			ways := told(t, float.Ways, coins, amount)
			if ways != w.ways[amount] {
				t.Fatal(coins, amount, ways, w.ways[amount])
			}
			if _, e := float.Fewest(coins, amount); (e == api.OK) != (ways > 0) {
				t.Fatal(coins, amount, ways, e)
			}
			if ways == 0 {
				none++
			}
			if ways > 1000 {
				many++
			}
		}
	}
	if min(none, many) < 2000 {
		t.Error("too few of a kind:", none, many)
	}
}

// P10.9: examples of the chapter, and others.
func TestPayOfSome(t *testing.T) {
	for i, x := range []struct {
		coins, stock []int64
		amount       int64
		change       []int64
		e            api.Errno
	}{
		{coinsK(), nums(1, 2, 1), 8, nums(0, 2, 0), api.OK},
		{coinsK(), nums(1, 2, 1), 9, nums(1, 2, 0), api.OK},
		{coinsK(), nums(1, 2, 1), 3, nil, api.ErrNone},
		{coinsK(), nums(1, 2, 1), 0, nums(0, 0, 0), api.OK},
		{coinsK(), nums(1, 2, 1), 15, nums(1, 2, 1), api.OK},
		{coinsK(), nums(1, 2, 1), 16, nil, api.ErrNone},
		{coinsK(), nums(2, 1, 1), 8, nums(2, 0, 1), api.OK},
		{coinsK(), nums(20, 1, 0), 8, nums(4, 1, 0), api.OK},
		{coinsK(), nums(20, 0, 0), 20, nums(20, 0, 0), api.OK},
		{coinsK(), nums(20, 0, 0), 21, nil, api.ErrNone},
		{coinsK(), nums(0, 0, 0), 0, nums(0, 0, 0), api.OK},
		{coinsK(), nums(0, 0, 0), 1, nil, api.ErrNone},
		{coinsK(), nums(20, 20, 20), 220, nums(20, 20, 20), api.OK},
		{nums(1, 2, 3, 4, 5), nums(20, 20, 20, 20, 20), 300, nums(20, 20, 20, 20, 20), api.OK},
		{nums(50), nums(20), 300, nums(6), api.OK},
		{nums(50), nums(5), 300, nil, api.ErrNone},
		{coinsT(), nums(8, 4), 40, nums(8, 0), api.OK},
		{coinsT(), nums(8, 5), 40, nums(0, 5), api.OK},
		// the first one of several
		{nums(1, 2, 3), nums(5, 5, 5), 4, nums(0, 2, 0), api.OK},
		{nums(1, 2, 3), nums(5, 1, 5), 4, nums(1, 0, 1), api.OK},
		{nums(1, 2, 3, 4, 5), nums(1, 1, 1, 1, 1), 6, nums(0, 1, 0, 1, 0), api.OK},
		{nums(2, 5, 8, 11), nums(1, 1, 1, 1), 13, nums(0, 1, 1, 0), api.OK},
		// invalid, and the first error before the others
		{coinsK(), nums(1, 2), 8, nil, api.ErrEqual},
		{coinsK(), nums(1, 2, 1, 1), 8, nil, api.ErrEqual},
		{coinsK(), nil, 0, nil, api.ErrEqual},
		{coinsK(), nums(1, 2, 21), 8, nil, api.ErrArg},
		{coinsK(), nums(-1, 2, 1), 8, nil, api.ErrArg},
		{coinsK(), nums(21, 0, 0), 0, nil, api.ErrArg},
		{coinsK(), nums(math.MinInt64, 0, 0), 0, nil, api.ErrArg},
		{coinsK(), nums(0, 0, math.MaxInt64), 0, nil, api.ErrArg},
		{coinsK(), nums(-1, 21), 8, nil, api.ErrEqual},
		{coinsK(), nums(-1, 21), 301, nil, api.ErrRange},
		{coinsK(), nums(1, 21, 0), 3, nil, api.ErrArg},
	} {
		change, e := float.Pay(x.coins, x.stock, x.amount)
		if !slices.Equal(change, x.change) || e != x.e {
			t.Error(i, change, e)
		}
	}
}

// P10.9, by the definition: all small floats.
func TestPayOfSmall(t *testing.T) {
	for _, coins := range lists(nil, 1, 6, 4) {
		for _, stock := range rows(len(coins), 3) {
			if len(stock) < len(coins) {
				continue
			}
			w := enumerated(coins, stock, most)
			for amount := range amountOf(coins, stock) + 2 {
				checkPay(t, w, coins, stock, amount)
			}
		}
	}
}

// checkPay holds what a float pays against a table.
func checkPay(t *testing.T, w *table, coins, stock []int64, amount int64) api.Errno {
	t.Helper()
	var want []int64
	f := api.ErrNone
	if w.canPay(amount) {
		want, f = w.best[amount][:len(coins)], api.OK
	}
	change, e := float.Pay(coins, stock, amount)
	if !slices.Equal(change, want) || e != f {
		t.Fatal(coins, stock, amount, change, e, want, f)
	}
	return e
}

// P10.9, by the definition: floats of chance.
func TestPay(t *testing.T) {
	c, found, several, other := chance{at: 11}, map[api.Errno]int{}, 0, 0
	for _, coins := range all() {
		endless := tableOf(coins, endless(coins))
		for range 10 {
			stock := c.stock(coins)
			w, whole := tableOf(coins, stock), min(amountOf(coins, stock), most)
			for _, amount := range nums(0, whole, c.from(0, whole), c.from(0, whole), c.from(0, whole), c.from(0, most)) {
				e := checkPay(t, w, coins, stock, amount)
				found[e]++
				if w.same[amount] > 1 {
					several++
				}
				if e == api.OK && w.best[amount] != endless.best[amount] {
					other++
				}
			}
		}
	}
	if min(found[api.OK], found[api.ErrNone], several, other) < 2000 {
		t.Error("too few of a kind:", found, several, other)
	}
}
