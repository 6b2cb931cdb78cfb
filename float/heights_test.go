package float_test

import (
	"math"
	"slices"
	"testing"

	"pennyfall/api"
	"pennyfall/float"
)

// P10.3: examples of the chapter, and others.
func TestCheckHeightsOfSome(t *testing.T) {
	long := func(many int, height int64) []int64 { return slices.Repeat(nums(height), many) }
	for i, x := range []struct {
		coins, heights []int64
		e              api.Errno
	}{
		{coinsK(), nums(0, 1, 2, 3, 1), api.OK},
		{coinsK(), nums(0, 1, 2, 3, 1, 2, 1, 2, 2), api.OK},
		{coinsK(), nums(0, 0, 0, 0, 0, 0), api.OK},
		{coinsK(), nums(0), api.OK},
		{coinsK(), nums(0, 1, 0, 1, 1), api.OK},
		{coinsK(), long(301, 0), api.OK},
		{nums(50), append(long(1, 0), long(49, 1000)...), api.OK},
		{nums(50), append(long(1, 0), long(50, 1000)...), api.ErrSum},
		{coinsT(), nums(0, 1000, 1000, 1000, 1000, 1, 1000, 1000, 1, 1000, 2), api.OK},
		{coinsT(), nums(0, 5, 5, 5, 5, 1, 6, 6, 1), api.OK},
		{coinsT(), nums(0, 5, 5, 5, 5, 1, 7, 6, 1), api.ErrSum},
		{coinsT(), nums(0, 5, 5, 5, 5, 2, 6, 6, 1), api.ErrSum},
		{coinsT(), nums(0, 5, 5, 5, 5, 1, 6, 6, 2), api.ErrSum},
		{coinsK(), nums(0, 1, 2, 3, 2), api.ErrSum},
		{coinsK(), nums(0, 2), api.ErrSum},
		{coinsK(), nums(1), api.ErrSum},
		{coinsK(), nums(1, 1, 1, 1, 1, 1), api.ErrSum},
		{coinsK(), nums(0, 0, 2), api.ErrSum},
		{coinsK(), long(301, 1000), api.ErrSum},
		{coinsK(), nil, api.ErrMany},
		{coinsK(), long(302, 0), api.ErrMany},
		{coinsK(), long(302, -1), api.ErrMany},
		{coinsK(), long(5000, 0), api.ErrMany},
		{coinsK(), nums(-1), api.ErrRange},
		{coinsK(), nums(0, 1, 1001), api.ErrRange},
		{coinsK(), nums(0, 1000, -1), api.ErrRange},
		{coinsK(), nums(5, 1001), api.ErrRange},
		{coinsK(), nums(0, math.MinInt64), api.ErrRange},
		{coinsK(), nums(0, math.MaxInt64), api.ErrRange},
	} {
		if e := float.CheckHeights(x.coins, x.heights); e != x.e {
			t.Error(i, e)
		}
	}
}

// rows returns all lists of up to so many numbers up to one.
func rows(many int, top int64) [][]int64 {
	out := [][]int64{nil}
	for i := 0; i < len(out); i++ {
		for x := range top + 1 {
			if len(out[i]) < many {
				out = append(out, append(slices.Clone(out[i]), x))
			}
		}
	}
	return out[1:]
}

// changed returns heights some of which may be other ones.
func (c *chance) changed(heights []int64) []int64 {
	out := slices.Clone(heights[:c.from(1, int64(len(heights)))])
	for range c.below(4) {
		at := c.below(len(out))
		out[at] = min(max(out[at]+c.from(-2, 1), 0), api.MaxFloatMany)
	}
	return out
}

// grown returns right heights of chance.
func (c *chance) grown(coins []int64) []int64 {
	out := nums(0)
	for amount := int64(1); amount <= c.from(0, most); amount++ {
		top := c.from(0, api.MaxFloatMany)
		for _, value := range coins {
			if value <= amount {
				top = min(top, out[amount-value]+1)
			}
		}
		if c.below(10) == 0 {
			top = c.from(0, top)
		}
		out = append(out, top)
	}
	return out
}

// P10.3, by the definition; and P10.10, that no change has fewer coins than the
// height of its amount, by right heights: all short heights, and some of chance.
func TestCheckHeights(t *testing.T) {
	c, found := chance{at: 7}, map[api.Errno]int{}
	short := rows(5, 3)
	for i, coins := range all() {
		w := tableOf(coins, endless(coins))
		proved, _ := float.Heights(coins, most)
		var tried [][]int64
		for range 20 {
			tried = append(tried, c.changed(proved), c.grown(coins), c.changed(c.grown(coins)))
		}
		if i < len(small()) {
			tried = append(tried, short...)
		}
		for _, heights := range tried {
			want := api.OK
			if !areRight(coins, heights) {
				want = api.ErrSum
			}
			found[want]++
			if e := float.CheckHeights(coins, heights); e != want {
				t.Fatal(coins, heights, e, want)
			}
			for amount, height := range heights {
				if want == api.OK && w.canPay(int64(amount)) && w.fewest(int64(amount)) < height {
					t.Fatal(coins, heights, amount)
				}
			}
		}
	}
	if min(found[api.OK], found[api.ErrSum]) < 10000 {
		t.Error("too few of a kind:", found)
	}
}

// P10.3: examples of the chapter, and others.
func TestHeightsOfSome(t *testing.T) {
	for i, x := range []struct {
		coins   []int64
		amount  int64
		heights []int64
	}{
		{coinsK(), 8, nums(0, 1, 2, 3, 1, 2, 1, 2, 2)},
		{coinsK(), 0, nums(0)},
		{coinsK(), 1, nums(0, 1)},
		{coinsT(), 0, nums(0)},
		{coinsT(), 3, nums(0, 1000, 1000, 1000)},
		{coinsT(), 5, nums(0, 1000, 1000, 1000, 1000, 1)},
		{coinsT(), 11, nums(0, 1000, 1000, 1000, 1000, 1, 1000, 1000, 1, 1000, 2, 1000)},
		{nums(50), 50, append(append(nums(0), slices.Repeat(nums(1000), 49)...), 1)},
	} {
		heights, e := float.Heights(x.coins, x.amount)
		if !slices.Equal(heights, x.heights) || e != api.OK {
			t.Error(i, heights, e)
		}
	}
}

// P10.3, by the definition; and P10.10, that they are right, and tell how many coins
// the best change has.
func TestHeights(t *testing.T) {
	c := chance{at: 8}
	for i, coins := range all() {
		w := tableOf(coins, endless(coins))
		var want []int64
		for amount := range int64(most + 1) {
			if w.canPay(amount) {
				want = append(want, w.fewest(amount))
			} else {
				want = append(want, 1000)
			}
		}
		for _, amount := range c.amounts(i, coins) {
			heights, e := float.Heights(coins, amount)
			if !slices.Equal(heights, want[:amount+1]) || e != api.OK {
				t.Fatal(coins, amount, heights, e)
			}
			if e := float.CheckHeights(coins, heights); e != api.OK {
				t.Fatal(coins, amount, heights, e)
			}
			if fewest, e := float.Fewest(coins, amount); e == api.OK && heights[amount] != fewest {
				t.Fatal(coins, amount, heights, fewest)
			}
		}
	}
}
