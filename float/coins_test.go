package float_test

import (
	"math"
	"slices"
	"testing"

	"pennyfall/api"
	"pennyfall/float"
)

// errorsOf returns the errors of all functions but CheckCoins; the other arguments
// are not valid, either.
func errorsOf(coins []int64) []api.Errno {
	_, _, change := float.CheckChange(coins, nums(-1))
	_, fewest := float.Fewest(coins, -1)
	_, best := float.Change(coins, -1)
	_, heights := float.Heights(coins, -1)
	_, _, greedy := float.Greedy(coins, -1)
	_, bad := float.Bad(coins)
	_, rests := float.Rests(coins)
	_, greatest := float.Greatest(coins)
	_, many := float.Many(coins)
	_, ways := float.Ways(coins, -1)
	_, pay := float.Pay(coins, nums(-1), -1)
	return []api.Errno{change, fewest, best, float.CheckHeights(coins, nil), heights, greedy,
		float.CheckBad(coins, -1), bad, rests, greatest, many, ways, pay}
}

// P10.1, and that all functions return its errors before all others.
func TestCheckCoins(t *testing.T) {
	for i, x := range []struct {
		coins []int64
		e     api.Errno
	}{
		{coinsK(), api.OK},
		{coinsT(), api.OK},
		{coinsE(), api.OK},
		{nums(1), api.OK},
		{nums(50), api.OK},
		{nums(1, 2, 3, 4, 5), api.OK},
		{nums(46, 47, 48, 49, 50), api.OK},
		// too few or too many kinds
		{nil, api.ErrMany},
		{nums(1, 2, 3, 4, 5, 6), api.ErrMany},
		{make([]int64, 5000), api.ErrMany},
		// a value
		{nums(0), api.ErrRange},
		{nums(51), api.ErrRange},
		{nums(-1), api.ErrRange},
		{nums(0, 1), api.ErrRange},
		{nums(1, 51), api.ErrRange},
		{nums(1, 4, 6, 8, 51), api.ErrRange},
		{nums(math.MinInt64, 1), api.ErrRange},
		{nums(1, math.MaxInt64), api.ErrRange},
		// not strictly increasing
		{nums(1, 1), api.ErrArg},
		{nums(2, 1), api.ErrArg},
		{nums(1, 4, 6, 5), api.ErrArg},
		{nums(1, 4, 4, 6), api.ErrArg},
		{nums(50, 49, 48, 47, 46), api.ErrArg},
		// the first error before the others
		{nums(6, 5, 4, 3, 2, 1), api.ErrMany},
		{nums(0, 1, 2, 3, 4, 5), api.ErrMany},
		{nums(0, 0), api.ErrRange},
		{nums(2, 1, 51), api.ErrRange},
		{nums(4, 4, 0), api.ErrRange},
	} {
		if e := float.CheckCoins(x.coins); e != x.e {
			t.Error(i, e)
		}
		for n, e := range errorsOf(x.coins) {
			if x.e != api.OK && e != x.e {
				t.Error(i, n, e)
			}
		}
	}
}

// Coins with up to three kinds of all values about the limits.
func TestCheckCoinsOfAll(t *testing.T) {
	values := nums(-1, 0, 1, 2, 49, 50, 51)
	all := [][]int64{nil}
	for i := 0; i < len(all) && len(all[i]) < 3; i++ {
		for _, value := range values {
			all = append(all, append(slices.Clone(all[i]), value))
		}
	}
	for _, coins := range all {
		want := api.OK
		switch {
		case len(coins) == 0:
			want = api.ErrMany
		case slices.Min(coins) < 1 || slices.Max(coins) > 50:
			want = api.ErrRange
		case len(slices.Compact(slices.Clone(coins))) < len(coins) || !slices.IsSorted(coins):
			want = api.ErrArg
		}
		if e := float.CheckCoins(coins); e != want {
			t.Fatal(coins, e, want)
		}
	}
}

// All functions with an amount return ErrRange if it cannot be, before all other
// errors but those of CheckCoins.
func TestNoAmount(t *testing.T) {
	for _, coins := range all() {
		for _, amount := range nums(-1, most+1, math.MinInt64, math.MaxInt64) {
			fewest, a := float.Fewest(coins, amount)
			change, b := float.Change(coins, amount)
			heights, c := float.Heights(coins, amount)
			taken, rest, d := float.Greedy(coins, amount)
			ways, f := float.Ways(coins, amount)
			pay, g := float.Pay(coins, nums(-1, -1, -1, -1, -1, -1), amount)
			for i, e := range []api.Errno{a, b, c, d, f, g, float.CheckBad(coins, amount)} {
				if e != api.ErrRange {
					t.Fatal(coins, amount, i, e)
				}
			}
			if fewest+rest+ways != 0 || len(change)+len(heights)+len(taken)+len(pay) > 0 {
				t.Fatal(coins, amount, fewest, change, heights, taken, rest, ways, pay)
			}
		}
		for _, amount := range nums(0, most) {
			if _, e := float.Heights(coins, amount); e != api.OK {
				t.Fatal(coins, amount, e)
			}
		}
	}
}

// P10.1: examples of the chapter, and others.
func TestCheckChangeOfSome(t *testing.T) {
	for i, x := range []struct {
		coins, change []int64
		amount, many  int64
		e             api.Errno
	}{
		{coinsK(), nums(2, 0, 1), 8, 3, api.OK},
		{coinsK(), nums(0, 0, 0), 0, 0, api.OK},
		{coinsK(), nums(1000, 1000, 1000), 11000, 3000, api.OK},
		{nums(46, 47, 48, 49, 50), nums(1000, 1000, 1000, 1000, 1000), 240000, 5000, api.OK},
		{coinsT(), nums(0, 1), 8, 1, api.OK},
		{coinsT(), nums(1, 0), 5, 1, api.OK},
		{nums(50), nums(7), 350, 7, api.OK},
		{coinsK(), nums(1, 1), 0, 0, api.ErrEqual},
		{coinsK(), nums(1, 1, 1, 1), 0, 0, api.ErrEqual},
		{coinsK(), nil, 0, 0, api.ErrEqual},
		{coinsK(), make([]int64, 5000), 0, 0, api.ErrEqual},
		{coinsK(), nums(0, 0, 1001), 0, 0, api.ErrRange},
		{coinsK(), nums(1001, 0, 0), 0, 0, api.ErrRange},
		{coinsK(), nums(0, -1, 0), 0, 0, api.ErrRange},
		{coinsK(), nums(math.MinInt64, 0, 0), 0, 0, api.ErrRange},
		{coinsK(), nums(0, 0, math.MaxInt64), 0, 0, api.ErrRange},
		{coinsK(), nums(-1, 1001), 0, 0, api.ErrEqual},
		{nums(1, 1), nums(-1), 0, 0, api.ErrArg},
	} {
		amount, many, e := float.CheckChange(x.coins, x.change)
		if amount != x.amount || many != x.many || e != x.e {
			t.Error(i, amount, many, e)
		}
	}
}

// P10.1, by the definition: change of chance.
func TestCheckChange(t *testing.T) {
	c := chance{at: 2}
	for _, coins := range all() {
		for range 20 {
			var change []int64
			for range coins {
				change = append(change, oneOf(&c, nums(0, 0, 1, c.from(0, 20), c.from(0, 1000), 1000)))
			}
			amount, many, e := float.CheckChange(coins, change)
			if amount != amountOf(coins, change) || many != sum(change) || e != api.OK {
				t.Fatal(coins, change, amount, many, e)
			}
		}
	}
}
