package pins_test

import (
	"math"
	"math/big"
	"slices"
	"testing"

	"pennyfall/api"
	"pennyfall/pins"
)

// P2.4 and P2.5: examples of the chapter, and others.
func TestLevelsOfSome(t *testing.T) {
	plumbs := func(ends ...api.Range) api.PinsReadings { return api.PinsReadings{Plumbs: ends} }
	left, right := even(8, 0, 1), even(8, 10, 1)
	for i, c := range []struct {
		b       api.PinsBoard
		r       api.PinsReadings
		levels  []int
		refuted []int
	}{
		{boardB(), readingsR(), ints(-1, 0, 1, 2, 3, 4), nil},
		{boardB(), readingsS(), nil, ints(1, 0, 0, 0, 0, 0, 0, 0, 0, 0, 0)},
		{boardB(), api.PinsReadings{}, levels(), nil},
		{boardB(), plumbs(api.Range{Lo: -5, Hi: 1}, api.Range{Lo: 1, Hi: 5}), ints(1), nil},
		{boardB(), plumbs(api.Range{Lo: 3, Hi: 4}, api.Range{Lo: -5, Hi: 3}, api.Range{Lo: 4, Hi: 5}), nil,
			ints(0, 0, 0, 0, 0, 0, 0, 0, 2, 1, 0)},
		{left, api.PinsReadings{Slots: ints(0)}, ints(-5, -4, -3, -2, -1, 0, 1, 2, 3, 4, 5), nil},
		{left, api.PinsReadings{Slots: ints(8)}, ints(1, 2, 3, 4, 5), nil},
		{right, api.PinsReadings{Slots: ints(8, 0)}, ints(-5, -4, -3, -2, -1), nil},
		{right, api.PinsReadings{Plumbs: []api.Range{{Lo: 0, Hi: 5}}, Slots: ints(8, 0)}, nil,
			ints(0, 0, 0, 0, 0, 2, 2, 2, 2, 2, 2)},
	} {
		want := api.OK
		if c.levels == nil {
			want = api.ErrPin
		}
		if got, e := pins.Levels(c.b, c.r); !slices.Equal(got, c.levels) || e != want {
			t.Error(i, got, e)
		}
		want = api.OK
		if c.refuted == nil {
			want = api.ErrNone
		}
		if got, e := pins.Refuted(c.b, c.r); !slices.Equal(got, c.refuted) || e != want {
			t.Error(i, got, e)
		}
	}
}

// P2.4, P2.5 and P2.8: level by level; either some agree, or there is a refutation.
func TestLevelsAndRefuted(t *testing.T) {
	some, no := 0, 0
	for _, c := range reads() {
		want := agreedLevels(c)
		got, e := pins.Levels(c.b, c.r)
		list, e2 := pins.Refuted(c.b, c.r)
		if len(want) > 0 {
			if some++; !slices.Equal(got, want) || e != api.OK || len(list) > 0 || e2 != api.ErrNone {
				t.Fatal(c, got, e, list, e2)
			}
			continue
		}
		no++
		var first []int
		for _, level := range levels() {
			first = append(first, firstAgainst(c, level))
		}
		if len(got) > 0 || e != api.ErrPin || !slices.Equal(list, first) || e2 != api.OK {
			t.Fatal(c, got, e, list, e2)
		}
	}
	if some < 100 || no < 100 {
		t.Error("too few of a kind:", some, no)
	}
}

// P2.5
func TestCheckRefutedOfSome(t *testing.T) {
	changed := func(at, n int) []int {
		out := ints(1, 0, 0, 0, 0, 0, 0, 0, 0, 0, 0)
		out[at] = n
		return out
	}
	twos := board(longs(1, 1, 1), 2, 2, 2) // its slot 1 is reached from the level -1 on
	for i, c := range []struct {
		b    api.PinsBoard
		r    api.PinsReadings
		list []int
		e    api.Errno
	}{
		{boardB(), readingsS(), changed(0, 1), api.OK},
		{boardB(), readingsS(), slices.Repeat(ints(0), 11), api.ErrSum},
		{boardB(), readingsS(), slices.Repeat(ints(1), 11), api.ErrSum},
		{boardB(), readingsS(), ints(1, 0), api.ErrEqual},
		{boardB(), readingsS(), nil, api.ErrEqual},
		{boardB(), readingsS(), slices.Repeat(ints(0), 10), api.ErrEqual},
		{boardB(), readingsS(), slices.Repeat(ints(0), 12), api.ErrEqual},
		{boardB(), readingsS(), slices.Repeat(ints(9), 12), api.ErrEqual},
		{boardB(), readingsS(), changed(5, 2), api.ErrRange},
		{boardB(), readingsS(), changed(10, -1), api.ErrRange},
		{boardB(), readingsS(), changed(10, math.MaxInt), api.ErrRange},
		{boardB(), readingsS(), changed(0, math.MinInt), api.ErrRange},
		// all are looked at for their ranges before any is for its level
		{boardB(), readingsS(), ints(0, 0, 0, 0, 0, 0, 0, 0, 0, 0, 2), api.ErrRange},
		// a level may not agree with several readings: each of them is right
		{twos, readingsS(), changed(0, 1), api.OK},
		{twos, readingsS(), changed(3, 1), api.OK},
		{twos, readingsS(), changed(4, 1), api.ErrSum},
		{twos, readingsS(), changed(10, 1), api.ErrSum},
		{boardB(), readingsR(), slices.Repeat(ints(0), 11), api.ErrSum},
		// without readings no number is one
		{boardB(), api.PinsReadings{}, slices.Repeat(ints(0), 11), api.ErrRange},
		{boardB(), api.PinsReadings{}, nil, api.ErrEqual},
	} {
		if e := pins.CheckRefuted(c.b, c.r, c.list); e != c.e {
			t.Error(i, c.list, e)
		}
	}
}

// P2.5 and P2.8: a list refutes readings just if no level agrees with its reading.
func TestCheckRefuted(t *testing.T) {
	kinds := map[api.Errno]int{}
	random := chance{at: 3}
	for _, c := range reads() {
		if count(c.r) == 0 {
			continue
		}
		list, e := pins.Refuted(c.b, c.r)
		if e != api.OK {
			list = slices.Repeat(ints(0), 11)
		}
		for range 3 {
			want := api.OK
			for i, level := range levels() {
				if agreesWith(c, level, list[i]) {
					want = api.ErrSum
				}
			}
			if got := pins.CheckRefuted(c.b, c.r, list); got != want {
				t.Fatal(c, list, got, want)
			}
			kinds[want]++
			list = slices.Clone(list)
			list[random.below(11)] = random.below(count(c.r))
		}
		if e == api.OK {
			continue
		}
		// some level agrees with all of them, so no list refutes them
		for range 20 {
			for i := range list {
				list[i] = random.below(count(c.r))
			}
			if got := pins.CheckRefuted(c.b, c.r, list); got != api.ErrSum {
				t.Fatal(c, list, got)
			}
		}
	}
	if kinds[api.OK] < 100 || kinds[api.ErrSum] < 100 {
		t.Error("too few of a kind:", kinds)
	}
}

// spanOf returns the least and the greatest pay, by the definition.
func spanOf(c read) (*big.Rat, *big.Rat) {
	var low, high *big.Rat
	for _, level := range agreedLevels(c) {
		pay := payOf(c.b, level)
		if low == nil || pay.Cmp(low) < 0 {
			low = pay
		}
		if high == nil || pay.Cmp(high) > 0 {
			high = pay
		}
	}
	return low, high
}

// P2.6
func TestSpan(t *testing.T) {
	low, high, e := pins.Span(boardB(), readingsR())
	if low != by(66, 25) || high != by(273, 50) || e != api.OK {
		t.Error(low, high, e)
	}
	for _, c := range reads() {
		low, high, e := pins.Span(c.b, c.r)
		least, most := spanOf(c)
		if least == nil {
			if low != (api.Ratio{}) || high != low || e != api.ErrPin {
				t.Fatal(c, low, high, e)
			}
			continue
		}
		if low != ratio(least) || high != ratio(most) || e != api.OK {
			t.Fatal(c, low, high, e)
		}
	}
}

// P2.7: examples of the chapter, and others.
func TestBrokenOfSome(t *testing.T) {
	falling := board(longs(500, 0), 5) // it pays 500 at the level -5, and 50 less at each further one
	for i, c := range []struct {
		b     api.PinsBoard
		r     api.PinsReadings
		p     api.Ratio
		level int
		e     api.Errno
	}{
		{boardB(), readingsR(), by(3, 1), -1, api.OK},
		{boardB(), readingsR(), by(5, 2), 0, api.ErrNone},
		{boardB(), readingsR(), by(66, 25), 0, api.ErrNone},
		{boardB(), readingsR(), by(264001, 100000), -1, api.OK},
		{boardB(), readingsS(), by(3, 1), 0, api.ErrPin},
		{boardB(), readingsS(), by(0, 1), 0, api.ErrPin},
		{boardB(), readingsR(), by(0, 1), 0, api.ErrNone},
		{boardB(), readingsR(), by(1000000, 1), -1, api.OK},
		{falling, api.PinsReadings{}, by(500, 1), -4, api.OK},
		{falling, api.PinsReadings{}, by(500000, 1000), -4, api.OK},
		{falling, api.PinsReadings{}, by(251, 1), 0, api.OK},
		{falling, api.PinsReadings{}, by(250, 1), 1, api.OK},
		{falling, api.PinsReadings{}, by(1, 1000000), 5, api.OK},
		{falling, api.PinsReadings{Slots: ints(0)}, by(1, 1000000), 0, api.ErrNone},
		{falling, api.PinsReadings{Slots: ints(0)}, by(51, 1), 4, api.OK},
		{even(8, 5, 500), api.PinsReadings{}, by(500, 1), 0, api.ErrNone},
		{even(8, 5, 500), api.PinsReadings{}, by(1000000, 1999), -5, api.OK},
		{even(8, 5, 500), api.PinsReadings{}, by(1000000, 2000), 0, api.ErrNone},
	} {
		if level, e := pins.Broken(c.b, c.r, c.p); level != c.level || e != c.e {
			t.Error(i, level, e)
		}
	}
	for i, c := range []struct {
		r     api.PinsReadings
		p     api.Ratio
		level int
		e     api.Errno
	}{
		{readingsR(), by(3, 1), -1, api.OK},
		{readingsR(), by(3, 1), 0, api.ErrRule},
		{readingsR(), by(3, 1), -2, api.ErrRule}, // it pays less, but does not agree
		{readingsS(), by(3, 1), -5, api.ErrRule},
		{readingsR(), by(31, 10), 0, api.ErrRule},
		{readingsR(), by(310001, 100000), 0, api.OK},
		{readingsR(), by(1000000, 1), 4, api.OK},
		{readingsR(), by(1000000, 1), 6, api.ErrArg},
		{readingsR(), by(1000000, 1), math.MinInt, api.ErrArg},
		{readingsS(), by(1000000, 1), -6, api.ErrArg},
	} {
		if e := pins.CheckBroken(boardB(), c.r, c.p, c.level); e != c.e {
			t.Error(i, e)
		}
	}
}

// P2.7: level by level, with promises about what is paid.
func TestBroken(t *testing.T) {
	kinds := map[api.Errno]int{}
	random := chance{at: 4}
	for _, c := range reads() {
		promises := []api.Ratio{by(0, 1), by(250, 1), by(int64(random.below(501000)), 1000)}
		if pay := ratio(payOf(c.b, 0)); pay.Num <= api.MaxPinsPromise && pay.Den <= api.MaxPinsPromise {
			promises = append(promises, pay)
		}
		for _, p := range promises {
			least, want := 0, api.ErrPin
			if len(agreedLevels(c)) > 0 {
				want = api.ErrNone
			}
			for _, level := range levels() {
				breaks := firstAgainst(c, level) < 0 && payOf(c.b, level).Cmp(rat(p)) < 0
				check := api.ErrRule
				if breaks {
					check = api.OK
				}
				if e := pins.CheckBroken(c.b, c.r, p, level); e != check {
					t.Fatal(c, p, level, e)
				}
				if breaks && want != api.OK {
					least, want = level, api.OK
				}
			}
			if level, e := pins.Broken(c.b, c.r, p); level != least || e != want {
				t.Fatal(c, p, level, e)
			}
			kinds[want]++
		}
	}
	if kinds[api.OK] < 100 || kinds[api.ErrNone] < 100 || kinds[api.ErrPin] < 100 {
		t.Error("too few of a kind:", kinds)
	}
}
