package float_test

import (
	"slices"
	"testing"

	"pennyfall/api"
	"pennyfall/float"
)

// P10.6 and P10.7: examples of the chapter, and others.
func TestRestsOfSome(t *testing.T) {
	for i, x := range []struct {
		coins, rests   []int64
		greatest, many int64
		e, f           api.Errno // of Greatest, and of Many
	}{
		{coinsT(), nums(0, 16, 32, 8, 24), 27, 14, api.OK, api.OK},
		{coinsE(), nums(0, -1, 6, -1), 0, 0, api.ErrOver, api.ErrOver},
		{coinsK(), nums(0), 0, 0, api.ErrNone, api.OK},
		{nums(1), nums(0), 0, 0, api.ErrNone, api.OK},
		{nums(1, 50), nums(0), 0, 0, api.ErrNone, api.OK},
		{nums(2), nums(0, -1), 0, 0, api.ErrOver, api.ErrOver},
		{nums(2, 3), nums(0, 3), 1, 1, api.OK, api.OK},
		{nums(2, 49), nums(0, 49), 47, 24, api.OK, api.OK},
		{nums(6, 9, 20), nums(0, 49, 20, 9, 40, 29), 43, 22, api.OK, api.OK},
		{nums(6, 10, 15), nums(0, 25, 20, 15, 10, 35), 29, 15, api.OK, api.OK},
		{nums(6, 9, 21), nums(0, -1, -1, 9, -1, -1), 0, 0, api.ErrOver, api.ErrOver},
		{nums(4, 8), nums(0, -1, -1, -1), 0, 0, api.ErrOver, api.ErrOver},
		{nums(4, 6, 8, 10, 11), nums(0, 17, 6, 11), 13, 7, api.OK, api.OK},
	} {
		rests, e := float.Rests(x.coins)
		if !slices.Equal(rests, x.rests) || e != api.OK {
			t.Error(i, rests, e)
		}
		greatest, e := float.Greatest(x.coins)
		many, f := float.Many(x.coins)
		if greatest != x.greatest || e != x.e || many != x.many || f != x.f {
			t.Error(i, greatest, e, many, f)
		}
	}
	greatest, e := float.Greatest(nums(49, 50))
	many, f := float.Many(nums(49, 50))
	if greatest != 2351 || e != api.OK || many != 1176 || f != api.OK {
		t.Error(greatest, e, many, f)
	}
	rests, e := float.Rests(nums(50))
	if want := append(nums(0), slices.Repeat(nums(-1), 49)...); !slices.Equal(rests, want) || e != api.OK {
		t.Error(rests, e)
	}
}

// leastOf returns the least amount of each rest, by what can be paid.
func leastOf(coins []int64, canPay []bool) []int64 {
	var out []int64
	for rest := range coins[0] {
		least := rest
		for least < far && !canPay[least] {
			least += coins[0]
		}
		if least >= far {
			least = -1
		}
		out = append(out, least)
	}
	return out
}

// lacking returns the greatest amount that cannot be paid, if there is one, and how
// many there are, by what can be paid up to far.
func lacking(canPay []bool) (int64, int64) {
	greatest, many := int64(0), int64(0)
	for amount, can := range canPay {
		if !can {
			greatest = int64(amount)
			many++
		}
	}
	return greatest, many
}

// P10.6 and P10.7, by the definitions.
func TestRests(t *testing.T) {
	found := map[api.Errno]int{}
	for _, coins := range append(all(), pairs()...) {
		canPay := paid(coins)
		want := leastOf(coins, canPay)
		rests, e := float.Rests(coins)
		if !slices.Equal(rests, want) || e != api.OK {
			t.Fatal(coins, rests, e, want)
		}
		greatest, many := lacking(canPay)
		wants := [2]api.Errno{}
		switch {
		case divisor(coins) > 1: // then no amount can be paid that it does not divide
			greatest, many, wants = 0, 0, [2]api.Errno{api.ErrOver, api.ErrOver}
		case many == 0:
			wants[0] = api.ErrNone
		}
		found[wants[0]]++
		g, e := float.Greatest(coins)
		m, f := float.Many(coins)
		if g != greatest || e != wants[0] || m != many || f != wants[1] {
			t.Fatal(coins, g, e, m, f, greatest, many, wants)
		}
	}
	if min(found[api.OK], found[api.ErrNone], found[api.ErrOver]) < 200 {
		t.Error("too few of a kind:", found)
	}
}

// P10.12: an amount can be paid just if it is not less than the least one of its rest.
func TestPaidByRests(t *testing.T) {
	c, found := chance{at: 9}, map[bool]int{}
	for i, coins := range all() {
		rests := must(t, float.Rests, coins)
		for _, amount := range c.amounts(i, coins) {
			least := rests[amount%coins[0]]
			canPay := least >= 0 && amount >= least
			found[canPay]++
			if _, e := float.Fewest(coins, amount); (e == api.OK) != canPay {
				t.Fatal(coins, amount, rests, e)
			}
		}
	}
	if min(found[true], found[false]) < 5000 {
		t.Error("too few of a kind:", found)
	}
}

// P10.12: the greatest amount that cannot be paid, and how many there are.
func TestGreatestByRests(t *testing.T) {
	many := 0
	for _, coins := range append(all(), pairs()...) {
		rests := must(t, float.Rests, coins)
		greatest, e := float.Greatest(coins)
		if e != api.OK {
			continue
		}
		many++
		if greatest != slices.Max(rests)-coins[0] {
			t.Fatal(coins, greatest, rests)
		}
		all := int64(0)
		for _, least := range rests {
			all += least / coins[0]
		}
		if many := must(t, float.Many, coins); many != all {
			t.Fatal(coins, many, rests)
		}
	}
	if many < 500 {
		t.Error("too few:", many)
	}
}

// P10.13: all coins of two kinds that have no divisor in common.
func TestTwo(t *testing.T) {
	for _, coins := range pairs() {
		a, b := coins[0], coins[1]
		if divisor(coins) > 1 {
			continue
		}
		greatest, e := float.Greatest(coins)
		if a == 1 { // then a times b, less a, less b, is -1: all can be paid
			if greatest != 0 || e != api.ErrNone {
				t.Fatal(coins, greatest, e)
			}
			continue
		}
		if greatest != a*b-a-b || e != api.OK {
			t.Fatal(coins, greatest, e)
		}
		if many := must(t, float.Many, coins); 2*many != greatest+1 {
			t.Fatal(coins, greatest, many)
		}
	}
}
