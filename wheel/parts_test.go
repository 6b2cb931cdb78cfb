package wheel_test

import (
	"math/big"
	"slices"
	"testing"

	"pennyfall/api"
	"pennyfall/wheel"
)

func sameParts(a, b [][]int) bool { return slices.EqualFunc(a, b, slices.Equal[[]int]) }

// P1.2: examples of the chapter, and others.
func TestPartsOfSome(t *testing.T) {
	for i, c := range []struct {
		m     api.WheelMachine
		parts [][]int
	}{
		{machineW(), [][]int{{0, 1}}},
		{machineX(), [][]int{{1}, {2}}},
		{machineY(), [][]int{{0, 1}}},
		{broke(), [][]int{{0}, {3}}},
		{machine(1, longs(5), 1), [][]int{{0}}},
		{machine(2, longs(9, 1), 1, 1, 0, 2), [][]int{{1}}},
		{machine(1, longs(0, 0, 0, 0), 0, 0, 0, 1, 0, 0, 1, 0, 0, 1, 0, 0, 1, 0, 0, 0), [][]int{{0, 3}, {1, 2}}},
		{machine(1, longs(0, 0, 0, 0), 1, 0, 0, 0, 0, 1, 0, 0, 0, 0, 1, 0, 0, 0, 0, 1), [][]int{{0}, {1}, {2}, {3}}},
	} {
		if p := mustParts(t, c.m); !sameParts(p, c.parts) {
			t.Error(i, p)
		}
		want := api.OK
		if len(c.parts) > 1 {
			want = api.ErrWheel
		}
		if e := wheel.Settles(c.m); e != want {
			t.Error(i, e)
		}
	}
}

// P1.2 and P1.9, of all ways in which states can lead to one another.
func TestPartsOfAllShapes(t *testing.T) {
	shapes(func(m api.WheelMachine) {
		parts := mustParts(t, m)
		if !sameParts(parts, partsOf(m)) {
			t.Fatal(m.Next, parts)
		}
		want := api.OK
		if len(parts) != 1 {
			want = api.ErrWheel
		}
		if e := wheel.Settles(m); e != want {
			t.Fatal(m.Next, parts, e)
		}
		checkApart(t, m, parts)
	})
}

// checkApart checks that there is a closed part, and that none leads to another.
func checkApart(t *testing.T, m api.WheelMachine, parts [][]int) {
	t.Helper()
	lead := leads(m)
	if len(parts) == 0 {
		t.Fatal(m.Next)
	}
	for i, one := range parts {
		for _, two := range parts[i+1:] {
			for _, a := range one {
				for _, b := range two {
					if a == b || lead[a][b] || lead[b][a] {
						t.Fatal(m.Next, parts)
					}
				}
			}
		}
	}
}

// P1.3: examples of the chapter, and others.
func TestLandsOfSome(t *testing.T) {
	for i, c := range []struct {
		m           api.WheelMachine
		state, part int
		want        api.Ratio
	}{
		{machineX(), 0, 0, by(1, 2)},
		{machineX(), 0, 1, by(1, 2)},
		{machineX(), 1, 0, by(1, 1)},
		{machineX(), 1, 1, by(0, 1)},
		{machineX(), 2, 0, by(0, 1)},
		{machineX(), 2, 1, by(1, 1)},
		{machineW(), 0, 0, by(1, 1)},
		{broke(), 0, 0, by(1, 1)},
		{broke(), 1, 0, by(6, 7)},
		{broke(), 1, 1, by(1, 7)},
		{broke(), 2, 0, by(4, 7)},
		{broke(), 2, 1, by(3, 7)},
		{machine(20, longs(0, 0, 0), 18, 1, 1, 0, 20, 0, 0, 0, 20), 0, 0, by(1, 2)},
		{machine(20, longs(0, 0, 0), 17, 1, 2, 0, 20, 0, 0, 0, 20), 0, 1, by(2, 3)},
	} {
		if r, e := wheel.Lands(c.m, c.state, c.part); r != c.want || e != api.OK {
			t.Error(i, r, e)
		}
	}
}

// P1.3 and P1.11: these say of all states what Lands returns, and nothing else does.
func TestLands(t *testing.T) {
	several := 0
	for _, m := range machines() {
		parts := mustParts(t, m)
		if len(parts) > 1 {
			several++
		}
		for part, list := range parts {
			lands := make([]*big.Rat, len(m.Next))
			for state := range lands {
				lands[state] = mustLands(t, m, state, part)
			}
			checkMembers(t, m, parts, part, lands)
			checkBehind(t, m, lands, list)
		}
		for state := range m.Next {
			all := new(big.Rat)
			for part := range parts {
				all.Add(all, mustLands(t, m, state, part))
			}
			if !same(all, whole(1)) {
				t.Fatal(m, state, all)
			}
		}
	}
	if several < 100 {
		t.Error("too few machines with several closed parts:", several)
	}
}

// checkMembers checks that a machine stays in a part in which it is.
func checkMembers(t *testing.T, m api.WheelMachine, parts [][]int, part int, lands []*big.Rat) {
	t.Helper()
	for number, list := range parts {
		want := whole(0)
		if number == part {
			want = whole(1)
		}
		for _, state := range list {
			if !same(lands[state], want) {
				t.Fatal(m, part, state, lands)
			}
		}
	}
}

// checkBehind checks that all is on the average, behind one play, what it is before it.
func checkBehind(t *testing.T, m api.WheelMachine, lands []*big.Rat, part []int) {
	t.Helper()
	for state, list := range m.Next {
		if !same(averageOf(m.Size, list, lands), lands[state]) {
			t.Fatal(m, part, state, lands)
		}
	}
}

func averageOf(size int64, places []int64, worth []*big.Rat) *big.Rat {
	out := new(big.Rat)
	for to, many := range places {
		out.Add(out, product(big.NewRat(many, size), worth[to]))
	}
	return out
}

// P1.3: examples of the chapter, and others.
func TestPeriodOfSome(t *testing.T) {
	for i, c := range []struct {
		m       api.WheelMachine
		periods []int
	}{
		{machineY(), []int{2}},
		{machineW(), []int{1}},
		{machineX(), []int{1, 1}},
		{machine(1, longs(0, 0, 0, 0), 0, 1, 0, 0, 0, 0, 1, 0, 0, 0, 0, 1, 1, 0, 0, 0), []int{4}},
		{machine(1, longs(0, 0, 0), 0, 1, 0, 0, 0, 1, 1, 0, 0), []int{3}},
		{machine(2, longs(0, 0, 0), 0, 2, 0, 0, 0, 2, 1, 1, 0), []int{1}},
		{machine(2, longs(0, 0, 0, 0), 0, 2, 0, 0, 0, 0, 2, 0, 0, 1, 0, 1, 2, 0, 0, 0), []int{2}},
		{machine(2, longs(0, 0, 0, 0), 0, 2, 0, 0, 0, 0, 2, 0, 1, 0, 0, 1, 2, 0, 0, 0), []int{1}},
		{machine(1, longs(0, 0, 0, 0), 0, 1, 0, 0, 1, 0, 0, 0, 0, 0, 0, 1, 0, 0, 1, 0), []int{2, 2}},
		{machine(1, longs(0, 0, 0, 0), 0, 1, 0, 0, 0, 0, 1, 0, 0, 1, 0, 0, 0, 0, 0, 1), []int{2, 1}},
	} {
		for part, want := range c.periods {
			if n, e := wheel.Period(c.m, part); n != want || e != api.OK {
				t.Error(i, part, n, e)
			}
		}
	}
}

// P1.3 and P1.16, of all ways in which states can lead to one another.
func TestPeriodOfAllShapes(t *testing.T) {
	shapes(func(m api.WheelMachine) {
		for number, part := range partsOf(m) {
			n, e := wheel.Period(m, number)
			if e != api.OK || n != periodOf(m, part[0]) {
				t.Fatal(m.Next, part, n, e)
			}
			if n < 1 || n > len(part) {
				t.Fatal(m.Next, part, n)
			}
			for _, state := range part {
				if m.Next[state][state] > 0 && n != 1 {
					t.Fatal(m.Next, part, n)
				}
			}
		}
	})
}

// periodOf looks at all ways back to a state of up to 24 plays: from any round
// of a part a way leads to the state, and back, with and without the round.
func periodOf(m api.WheelMachine, state int) int {
	at := 1 << state
	out := 0
	for plays := 1; plays <= 24; plays++ {
		behind := 0
		for _, from := range members(at) {
			for to, many := range m.Next[from] {
				if many > 0 {
					behind |= 1 << to
				}
			}
		}
		at = behind
		if at>>state&1 == 1 {
			out = int(new(big.Int).GCD(nil, nil, big.NewInt(int64(out)), big.NewInt(int64(plays))).Int64())
		}
	}
	return out
}
