package box_test

import (
	"math"
	"slices"
	"testing"

	"pennyfall/api"
	"pennyfall/box"
)

// P6.5: examples of the chapter, and others.
func TestCheckWrongOfSome(t *testing.T) {
	for i, c := range []struct {
		h    api.BoxHall
		list []int
		e    api.Errno
	}{
		{hallG(), ints(1), api.OK},
		{hallG(), ints(3), api.OK},
		{hallG(), ints(0), api.ErrBox},
		{hallG(), ints(5), api.ErrRange},
		{hallG(), ints(2), api.ErrBox},
		{hallG(), ints(4), api.ErrBox},
		{hallG(), nil, api.ErrBox},
		{hallG(), ints(0, 2), api.OK},
		{hallG(), ints(2, 4), api.ErrBox},
		{hallG(), ints(0, 1, 2, 3, 4), api.OK},
		{hallG(), ints(-1), api.ErrRange},
		{hallG(), ints(1, 1), api.ErrRange},
		{hallG(), ints(3, 1), api.ErrRange},
		{hallG(), ints(0, 5), api.ErrRange},
		{hallG(), ints(-1, 1), api.ErrRange},
		{hallG(), ints(0, 1, 2, 3, 4, 5), api.ErrRange},
		{hallG(), ints(math.MinInt, math.MaxInt), api.ErrRange},
		{hallH(), nil, api.OK},
		{hallH(), ints(0), api.OK},
		{hallH(), ints(1, 4), api.OK},
		{hallH(), ints(5), api.ErrRange},
		{hall(gains(ranged(1, 1))), nil, api.ErrBox},
		{hall(gains(ranged(1, 1))), ints(0), api.OK},
		{hall(gains(ranged(1, 1))), ints(1), api.ErrRange},
	} {
		if e := box.CheckWrong(c.h, c.list); e != c.e {
			t.Error(i, e)
		}
	}
}

// P6.5 and P6.6: examples of the chapter, and others.
func TestWrongOfSome(t *testing.T) {
	five := hall(slices.Repeat(gains(ranged(700, 700)), 5), move(0, 1, 1, 1))
	for i, c := range []struct {
		h     api.BoxHall
		list  []int
		kinds []int
	}{
		{hallG(), ints(1), ints(0, 1, 0, 1, 0)},
		{hallH(), nil, ints(0, 0, 0, 0, 0)},
		{hall(gains(ranged(1, 1))), ints(0), ints(2)},
		{hall(gains(ranged(0, 0))), nil, ints(0)},
		{five, ints(1, 2, 3, 4, 5), ints(0, 2, 2, 2, 2, 2)},
		// a count, or both gains
		{hall(gains(ranged(-9, -8), ranged(8, 9)), move(0, 1, 5, 7)), ints(0), ints(2, 0, 0)},
		// one of two gains that cannot both be right: the other one is as the counts say
		{hall(gains(ranged(-3, -1), ranged(5, 5)), move(0, 1, 2, 3), move(1, 0, 0, 0)), ints(3), ints(0, 0, 0, 2)},
		// no count can be more than the limit, so that a gain must be wrong
		{hall(gains(ranged(-700, 0), ranged(101, 101)), move(0, 1, 0, 3)), ints(2), ints(0, 0, 2)},
		{hall(gains(ranged(-700, 0), ranged(100, 101)), move(0, 1, 0, 3)), ints(0), ints(1, 0, 1)},
	} {
		if list, e := box.Wrong(c.h); !slices.Equal(list, c.list) || e != api.OK {
			t.Error(i, list, e)
		}
		for reading, want := range c.kinds {
			if kind, e := box.Kind(c.h, reading); kind != want || e != api.OK {
				t.Error(i, reading, kind, e)
			}
		}
		for _, reading := range ints(-1, len(c.kinds), math.MinInt, math.MaxInt) {
			if kind, e := box.Kind(c.h, reading); kind != 0 || e != api.ErrRange {
				t.Error(i, reading, kind, e)
			}
		}
	}
}

// wrongByTruths returns the fewest readings that can be wrong together, each list
// of them, in lexicographic order: those with which some truth does not agree.
func wrongByTruths(h api.BoxHall) [][]int {
	var out [][]int
	free := without(h, members(1<<len(h.Moves)-1))
	eachTruth(free, func(truth []int64) {
		list := wrongOf(h, truth)
		if len(out) > 0 && len(list) < len(out[0]) {
			out = nil
		}
		if len(out) == 0 || len(list) == len(out[0]) && !slices.ContainsFunc(out, func(x []int) bool { return slices.Equal(x, list) }) {
			out = append(out, list)
		}
	})
	slices.SortFunc(out, slices.Compare[[]int])
	return out
}

// checkFewest holds Wrong and Kind against the fewest.
func checkFewest(t *testing.T, h api.BoxHall, lists [][]int) {
	t.Helper()
	if list := mustWrong(t, h); !slices.Equal(list, lists[0]) {
		t.Fatal(h, list, lists)
	}
	for reading := range readings(h) {
		if kind := mustKind(t, h, reading); kind != kindOf(lists, reading) {
			t.Fatal(h, reading, kind, lists)
		}
	}
}

// P6.5 and P6.6, by the definition: over all truths of up to two moves, and of
// three in a few halls.
func TestWrongByTruths(t *testing.T) {
	many, three := map[int]int{}, 0
	for _, h := range all() {
		if len(h.Moves) == 3 {
			three++
		}
		if len(h.Moves) > 3 || len(h.Moves) == 3 && three%100 > 0 {
			continue
		}
		lists := wrongByTruths(h)
		checkFewest(t, h, lists)
		many[len(lists[0])]++
	}
	for n, least := range ints(200, 200, 50, 10) {
		if many[n] < least {
			t.Error("too few with so many that are wrong:", n, many)
		}
	}
}

// P6.5 and P6.6, by proofs.
func TestWrong(t *testing.T) {
	many, kinds := map[int]int{}, map[int]int{}
	for i, h := range all() {
		if i%3 > 0 {
			continue
		}
		lists := fewestOf(h)
		checkFewest(t, h, lists)
		many[len(lists[0])]++
		for reading := range readings(h) {
			kinds[kindOf(lists, reading)]++
		}
	}
	for n, least := range ints(300, 100, 50, 10) {
		if many[n] < least {
			t.Error("too few with so many that are wrong:", n, many)
		}
	}
	for kind := range 3 {
		if kinds[kind] < 200 {
			t.Error("too few of a kind:", kind, kinds)
		}
	}
}

// P6.5 and P6.13: which readings can be wrong together, by proofs; more can if
// some can, and all can.
func TestCheckWrong(t *testing.T) {
	c, can, not := chance{at: 4}, 0, 0
	for _, h := range all() {
		whole := 1<<readings(h) - 1
		for range 4 {
			list := members(c.below(whole+1) & c.below(whole+1))
			want := api.OK
			if isProved(without(h, list)) {
				want = api.ErrBox
				not++
			} else {
				can++
			}
			if e := box.CheckWrong(h, list); e != want {
				t.Fatal(h, list, e)
			}
			more := slices.Compact(slices.Sorted(slices.Values(append(list, c.below(readings(h))))))
			if e := box.CheckWrong(h, more); want == api.OK && e != api.OK {
				t.Fatal(h, list, more, e)
			}
		}
		if e := box.CheckWrong(h, members(whole)); e != api.OK {
			t.Fatal(h, e)
		}
	}
	if can < 1000 || not < 1000 {
		t.Error("too few of a kind:", can, not)
	}
}

// P6.13: no fewer readings can be wrong together, and none are if a truth agrees.
func TestNoFewer(t *testing.T) {
	fewer := 0
	for i, h := range all() {
		if i%3 != 1 {
			continue
		}
		list := mustWrong(t, h)
		if e := box.CheckWrong(h, list); e != api.OK {
			t.Fatal(h, list, e)
		}
		if _, e := box.Truth(h); (e == api.OK) != (len(list) == 0) {
			t.Fatal(h, list, e)
		}
		for set := range 1 << readings(h) {
			less := members(set)
			if len(less) >= len(list) {
				continue
			}
			if e := box.CheckWrong(h, less); e != api.ErrBox {
				t.Fatal(h, list, less, e)
			}
			fewer++
		}
	}
	if fewer < 1000 {
		t.Error("too few lists that are shorter:", fewer)
	}
}
