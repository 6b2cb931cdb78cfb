package wheel_test

import (
	"math/big"
	"slices"
	"testing"

	"pennyfall/api"
	"pennyfall/wheel"
)

// P1.7: examples of the chapter, and others.
func TestBetweenOfSome(t *testing.T) {
	for i, c := range []struct {
		m         api.WheelMachine
		low, high api.Ratio
	}{
		{readingR(), by(3, 2), by(4, 1)},
		{machineW(), by(2, 1), by(2, 1)},
		{machine(2, longs(3), 1), by(3, 1), by(3, 1)},
		{machine(2, longs(0), 1), by(0, 1), by(0, 1)},
		{machine(2, longs(0, 8), 1, 0, 1, 0), by(0, 1), by(4, 1)},
		{machine(2, longs(8, 0), 1, 0, 1, 0), by(4, 1), by(8, 1)},
		{machine(4, longs(0, 0), 1, 0, 1, 0), by(0, 1), by(0, 1)},
		{machine(4, longs(7, 7), 1, 0, 1, 0), by(7, 1), by(7, 1)},
		{machine(4, longs(5, 1, 9), 1, 0, 0, 1, 0, 0, 1, 0, 0), by(2, 1), by(8, 1)},
		{machine(20, longs(0, 0, 0, 1000), 1, 0, 0, 0, 1, 0, 0, 0, 1, 0, 0, 0, 1, 0, 0, 0), by(0, 1), by(950, 1)},
		{machine(10, longs(1, 0, 1000), 9, 0, 0, 1, 0, 9, 1, 0, 9), by(1, 1), by(1001, 2)},
		// the state that pays most is not the best one to come to
		{machine(10, longs(0, 9, 5), 1, 0, 0, 10, 0, 0, 1, 0, 9), by(0, 1), by(9, 2)},
	} {
		if low, high, e := wheel.Between(c.m); low != c.low || high != c.high || e != api.OK {
			t.Error(i, low, high, e)
		}
	}
}

// readings returns readings with some places that were not read.
func readings() []api.WheelMachine {
	out := []api.WheelMachine{readingR()}
	r := row{at: 4}
	for range 400 {
		m := r.machine()
		left := 9 / int64(len(m.Next))
		for i, list := range m.Next {
			for range left {
				if to := r.below(int64(len(list))); list[to] > 0 {
					list[to]--
				}
			}
			if list[0] == 0 {
				m.Next[i] = r.list(len(list), m.Size-1)
				m.Next[i][0]++
			}
		}
		out = append(out, m)
	}
	return out
}

// eachFilling calls do with each filling of a reading.
func eachFilling(m api.WheelMachine, do func(m api.WheelMachine)) {
	for i, list := range m.Next {
		if addOf(list) == m.Size {
			continue
		}
		// The first list that is not full gets one place, and no later one of
		// its places leads to an earlier state: so no filling comes twice.
		eachList(list, m.Size, 0, func(full []int64) {
			other := cloned(m)
			copy(other.Next[i], full)
			eachFilling(other, do)
		})
		return
	}
	do(m)
}

func eachList(list []int64, size int64, from int, do func(full []int64)) {
	if addOf(list) == size {
		do(list)
		return
	}
	for to := from; to < len(list); to++ {
		other := slices.Clone(list)
		other[to]++
		eachList(other, size, to, do)
	}
}

func addOf(list []int64) int64 {
	out := int64(0)
	for _, n := range list {
		out += n
	}
	return out
}

// P1.7 and P1.13: the ends are the least and the greatest pay of all fillings.
func TestBetween(t *testing.T) {
	wide := 0
	for _, m := range readings() {
		low, high := mustBetween(t, m)
		var least, most *big.Rat
		eachFilling(m, func(full api.WheelMachine) {
			pays := mustPays(t, full)
			if least == nil || pays.Cmp(least) < 0 {
				least = pays
			}
			if most == nil || pays.Cmp(most) > 0 {
				most = pays
			}
		})
		if !same(low, least) || !same(high, most) {
			t.Fatal(m, low, high, least, most)
		}
		if low.Cmp(high) < 0 {
			wide++
		}
	}
	if wide < 100 {
		t.Error("too few readings with two ends:", wide)
	}
}

// P1.13: with one more place that is read neither end goes outwards.
func TestBetweenNarrows(t *testing.T) {
	for _, m := range readings() {
		low, high := mustBetween(t, m)
		for i, list := range m.Next {
			if addOf(list) == m.Size {
				continue
			}
			for to := range list {
				other := cloned(m)
				other.Next[i][to]++
				if a, b := mustBetween(t, other); a.Cmp(low) < 0 || b.Cmp(high) > 0 || a.Cmp(b) > 0 {
					t.Fatal(m, i, to, a, b)
				}
			}
		}
	}
}
