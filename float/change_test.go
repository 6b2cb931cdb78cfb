package float_test

import (
	"slices"
	"testing"

	"pennyfall/api"
	"pennyfall/float"
)

// The table by which all else is tested, change by change, as far as these are few.
func TestTable(t *testing.T) {
	c, whole := chance{at: 3}, 0
	for i, coins := range all() {
		stock := endless(coins)
		if i%2 == 0 {
			stock = c.stock(coins)
		}
		w, upTo, many := tableOf(coins, stock), int64(-1), int64(0)
		for upTo < most && many+w.ways[upTo+1] <= 10000 {
			upTo++
			many += w.ways[upTo]
		}
		if upTo == most {
			whole++
		}
		far := enumerated(coins, stock, upTo)
		for amount := range upTo + 1 {
			if far.ways[amount] != w.ways[amount] || far.same[amount] != w.same[amount] || far.best[amount] != w.best[amount] {
				t.Fatal(coins, stock, amount)
			}
		}
	}
	if whole < 200 {
		t.Error("too few as a whole:", whole)
	}
}

// P10.2: examples of the chapter, and others.
func TestChangeOfSome(t *testing.T) {
	for i, x := range []struct {
		coins  []int64
		amount int64
		change []int64
		e      api.Errno
	}{
		{coinsK(), 8, nums(0, 2, 0), api.OK},
		{coinsK(), 0, nums(0, 0, 0), api.OK},
		{coinsK(), 1, nums(1, 0, 0), api.OK},
		{coinsK(), 300, nums(0, 0, 50), api.OK},
		{coinsK(), 301, nil, api.ErrRange},
		{coinsK(), -1, nil, api.ErrRange},
		{coinsK(), 12, nums(0, 0, 2), api.OK},
		{coinsK(), 14, nums(0, 2, 1), api.OK},
		{coinsT(), 28, nums(4, 1), api.OK},
		{coinsT(), 27, nil, api.ErrNone},
		{coinsT(), 0, nums(0, 0), api.OK},
		{coinsT(), 4, nil, api.ErrNone},
		{coinsT(), 40, nums(0, 5), api.OK}, // not 8 0
		{coinsE(), 2, nil, api.ErrNone},
		{coinsE(), 299, nil, api.ErrNone},
		{coinsE(), 8, nums(2, 0), api.OK},
		{nums(1), 300, nums(300), api.OK},
		{nums(50), 300, nums(6), api.OK},
		{nums(50), 299, nil, api.ErrNone},
		{nums(50), 0, nums(0), api.OK},
		// the first one of several
		{nums(1, 2, 3), 4, nums(0, 2, 0), api.OK},
		{nums(2, 3, 4), 6, nums(0, 2, 0), api.OK},
		{nums(1, 2, 3, 4, 5), 6, nums(0, 0, 2, 0, 0), api.OK},
		{nums(1, 2, 3, 4, 5), 7, nums(0, 0, 1, 1, 0), api.OK},
		{nums(2, 5, 8, 11), 16, nums(0, 0, 2, 0), api.OK},
		{nums(2, 5, 8, 11), 13, nums(0, 1, 1, 0), api.OK},
	} {
		change, e := float.Change(x.coins, x.amount)
		fewest, f := float.Fewest(x.coins, x.amount)
		if !slices.Equal(change, x.change) || e != x.e || fewest != sum(x.change) || f != x.e {
			t.Error(i, change, e, fewest, f)
		}
	}
}

// P10.2, by the definition.
func TestChange(t *testing.T) {
	c, none, several, other := chance{at: 4}, 0, 0, 0
	for i, coins := range all() {
		w := tableOf(coins, endless(coins))
		for _, amount := range c.amounts(i, coins) {
			change, e := float.Change(coins, amount)
			fewest, f := float.Fewest(coins, amount)
			if !w.canPay(amount) {
				none++
				if e != api.ErrNone || f != api.ErrNone || len(change) > 0 || fewest != 0 {
					t.Fatal(coins, amount, change, e, fewest, f)
				}
				continue
			}
			if w.same[amount] > 1 {
				several++
			}
			if taken, _ := greedy(coins, amount); !slices.Equal(taken, change) {
				other++
			}
			want := w.best[amount][:len(coins)]
			if !slices.Equal(change, want) || e != api.OK || fewest != sum(want) || f != api.OK {
				t.Fatal(coins, amount, change, e, fewest, f, want)
			}
		}
	}
	if min(none, several, other) < 5000 {
		t.Error("too few of a kind:", none, several, other)
	}
}

// P10.4 and P10.5: examples of the chapter, and others.
func TestGreedyOfSome(t *testing.T) {
	for i, x := range []struct {
		coins  []int64
		amount int64
		taken  []int64
		rest   int64
		e      api.Errno // of CheckBad
	}{
		{coinsK(), 8, nums(2, 0, 1), 0, api.OK},
		{coinsK(), 10, nums(0, 1, 1), 0, api.ErrRule},
		{coinsK(), 9, nums(3, 0, 1), 0, api.OK},
		{coinsK(), 0, nums(0, 0, 0), 0, api.ErrRule},
		{coinsK(), 300, nums(0, 0, 50), 0, api.ErrRule},
		{coinsT(), 27, nums(0, 3), 3, api.ErrNone},
		{coinsT(), 28, nums(0, 3), 4, api.OK},
		{coinsT(), 10, nums(0, 1), 2, api.OK},
		{coinsT(), 13, nums(1, 1), 0, api.ErrRule},
		{coinsT(), 4, nums(0, 0), 4, api.ErrNone},
		{coinsT(), 0, nums(0, 0), 0, api.ErrRule},
		{nums(50), 299, nums(5), 49, api.ErrNone},
		{nums(1, 5, 10), 299, nums(4, 1, 29), 0, api.ErrRule},
		{nums(1, 10, 25), 30, nums(5, 0, 1), 0, api.OK},
		{nums(1, 10, 25), 29, nums(4, 0, 1), 0, api.ErrRule},
		{nums(1, 3, 4), 7, nums(0, 1, 1), 0, api.ErrRule},
		{nums(1, 2, 3), 4, nums(1, 0, 1), 0, api.ErrRule}, // as many coins, though not the best change
	} {
		taken, rest, e := float.Greedy(x.coins, x.amount)
		if !slices.Equal(taken, x.taken) || rest != x.rest || e != api.OK {
			t.Error(i, taken, rest, e)
		}
		if e := float.CheckBad(x.coins, x.amount); e != x.e {
			t.Error(i, e)
		}
	}
}

// P10.4 and P10.5, by the definitions; and P10.11, that what is taken and the rest
// are the amount.
func TestGreedy(t *testing.T) {
	c, found := chance{at: 5}, map[api.Errno]int{}
	for i, coins := range all() {
		w := tableOf(coins, endless(coins))
		for _, amount := range c.amounts(i, coins) {
			want, left := greedy(coins, amount)
			taken, rest, e := float.Greedy(coins, amount)
			if !slices.Equal(taken, want) || rest != left || e != api.OK || amountOf(coins, taken)+rest != amount {
				t.Fatal(coins, amount, taken, rest, e)
			}
			f := api.ErrNone
			switch {
			case w.isBad(coins, amount):
				f = api.OK
			case w.canPay(amount):
				f = api.ErrRule
			}
			found[f]++
			if e := float.CheckBad(coins, amount); e != f {
				t.Fatal(coins, amount, e, f)
			}
		}
	}
	if min(found[api.OK], found[api.ErrNone], found[api.ErrRule]) < 5000 {
		t.Error("too few of a kind:", found)
	}
}

// P10.5: examples of the chapter, and others.
func TestBadOfSome(t *testing.T) {
	for i, x := range []struct {
		coins []int64
		bad   int64
		e     api.Errno
	}{
		{coinsK(), 8, api.OK},
		{coinsT(), 0, api.ErrArg},
		{coinsE(), 0, api.ErrArg},
		{nums(2), 0, api.ErrArg},
		{nums(2, 3, 4, 5, 6), 0, api.ErrArg},
		{nums(1, 5, 10), 0, api.ErrNone},
		{nums(1, 5, 10, 20, 50), 0, api.ErrNone},
		{nums(1), 0, api.ErrNone},
		{nums(1, 50), 0, api.ErrNone},
		{nums(1, 2, 3, 4, 5), 0, api.ErrNone},
		{nums(1, 10, 25), 30, api.OK},
		{nums(1, 3, 4), 6, api.OK},
		{nums(1, 49, 50), 98, api.OK}, // the greatest that there is
		{nums(1, 2, 48, 49, 50), 96, api.OK},
		{nums(1, 25, 49), 0, api.ErrNone},
		{nums(1, 26, 50), 52, api.OK},
		{nums(1, 7, 10, 50), 14, api.OK},
	} {
		if bad, e := float.Bad(x.coins); bad != x.bad || e != x.e {
			t.Error(i, bad, e)
		}
	}
}

// leastBad returns the least amount up to most that is bad, or ErrNone, for coins
// from 1 on.
func leastBad(coins []int64) (int64, api.Errno) {
	var fewest, taken [most + 1]int64
	for amount := int64(1); amount <= most; amount++ {
		fewest[amount] = fewest[amount-1] + 1
		for _, value := range coins {
			if value <= amount { // the last one of these is the greatest one
				fewest[amount] = min(fewest[amount], fewest[amount-value]+1)
				taken[amount] = taken[amount-value] + 1
			}
		}
		if taken[amount] > fewest[amount] {
			return amount, api.OK
		}
	}
	return 0, api.ErrNone
}

// P10.5 and P10.11: all coins from 1 on.
func TestBad(t *testing.T) {
	found := map[api.Errno]int{}
	for _, coins := range lists(nums(1), 2, api.MaxFloatCoin, api.MaxFloatKinds) {
		want, f := leastBad(coins)
		found[f]++
		bad, e := float.Bad(coins)
		if bad != want || e != f {
			t.Fatal(coins, bad, e, want, f)
		}
		if e == api.OK && bad >= last(coins)+coins[len(coins)-2] {
			t.Fatal(coins, bad)
		}
	}
	if min(found[api.OK], found[api.ErrNone]) < 2000 {
		t.Error("too few of a kind:", found)
	}
}

// P10.5, by the definition; and the amount is one that CheckBad says is bad, and the
// first one.
func TestBadIsLeast(t *testing.T) {
	found := map[api.Errno]int{}
	for i, coins := range all() {
		bad, e := float.Bad(coins)
		found[e]++
		if coins[0] != 1 {
			if bad != 0 || e != api.ErrArg {
				t.Fatal(coins, bad, e)
			}
			continue
		}
		w := tableOf(coins, endless(coins))
		for amount := range int64(most + 1) {
			isBad := w.isBad(coins, amount)
			if isBad && (e != api.OK || amount < bad) || amount == bad && e == api.OK && !isBad {
				t.Fatal(coins, amount, bad, e)
			}
			if i%5 == 0 && (float.CheckBad(coins, amount) == api.OK) != isBad {
				t.Fatal(coins, amount, bad, e)
			}
		}
	}
	if min(found[api.OK], found[api.ErrNone], found[api.ErrArg]) < 50 {
		t.Error("too few of a kind:", found)
	}
}
