package wheel_test

import (
	"math/big"
	"slices"
	"testing"

	"pennyfall/api"
	"pennyfall/wheel"
)

// P1.4: examples of the chapter, and others.
func TestPaysOfSome(t *testing.T) {
	for i, c := range []struct {
		m      api.WheelMachine
		shares []api.Ratio
		pays   api.Ratio
	}{
		{machineW(), []api.Ratio{by(2, 3), by(1, 3)}, by(2, 1)},
		{machineY(), []api.Ratio{by(1, 2), by(1, 2)}, by(2, 1)},
		{machine(7, longs(5), 7), []api.Ratio{by(1, 1)}, by(5, 1)},
		{machine(7, longs(0), 7), []api.Ratio{by(1, 1)}, by(0, 1)},
		{machine(4, longs(0, 0), 3, 1, 2, 2), []api.Ratio{by(2, 3), by(1, 3)}, by(0, 1)},
		{machine(2, longs(9, 1), 1, 1, 0, 2), []api.Ratio{by(0, 1), by(1, 1)}, by(1, 1)},
		{machine(2, longs(1, 9), 2, 0, 1, 1), []api.Ratio{by(1, 1), by(0, 1)}, by(1, 1)},
		{machine(20, longs(1000, 999), 19, 1, 1, 19), []api.Ratio{by(1, 2), by(1, 2)}, by(1999, 2)},
		{machine(10, longs(3, 0, 0, 10), 9, 1, 0, 0, 0, 9, 1, 0, 0, 0, 9, 1, 10, 0, 0, 0), []api.Ratio{by(10, 31), by(10, 31), by(10, 31), by(1, 31)}, by(40, 31)},
		{machine(20, longs(0, 0, 0, 1000), 19, 1, 0, 0, 19, 0, 1, 0, 19, 0, 0, 1, 20, 0, 0, 0), []api.Ratio{by(8000, 8421), by(400, 8421), by(20, 8421), by(1, 8421)}, by(1000, 8421)},
	} {
		if list, e := wheel.Shares(c.m); !slices.Equal(list, c.shares) || e != api.OK {
			t.Error(i, list, e)
		}
		if r, e := wheel.Pays(c.m); r != c.pays || e != api.OK {
			t.Error(i, r, e)
		}
	}
}

// P1.4 and P1.5: with several closed parts there are no shares, no pay and no proof.
func TestWithoutSettling(t *testing.T) {
	for i, m := range machines() {
		want := wheel.Settles(m)
		shares, e := wheel.Shares(m)
		if e != want || (e != api.OK) != (len(shares) == 0) {
			t.Error(i, m, shares, e)
		}
		pays, e := wheel.Pays(m)
		if e != want || (e != api.OK) != (pays == api.Ratio{}) {
			t.Error(i, m, pays, e)
		}
		p, e := wheel.Proof(m)
		if e != want || (e != api.OK) != (p.Den == 0) || e != api.OK && (p.Gain != 0 || len(p.Heights) > 0) {
			t.Error(i, m, p, e)
		}
	}
	if _, e := wheel.Pays(machineX()); e != api.ErrWheel {
		t.Error(e)
	}
}

// P1.4 and P1.10: these say of all states what Shares returns, and nothing else does.
func TestShares(t *testing.T) {
	for _, m := range settled() {
		shares := mustShares(t, m)
		if !same(sum(shares...), whole(1)) {
			t.Fatal(m, shares)
		}
		part := partsOf(m)[0]
		pays := new(big.Rat)
		for to, share := range shares {
			came := new(big.Rat)
			for from, list := range m.Next {
				came.Add(came, product(shares[from], big.NewRat(list[to], m.Size)))
			}
			if !same(came, share) || (share.Sign() > 0) != slices.Contains(part, to) || share.Sign() < 0 {
				t.Fatal(m, to, shares)
			}
			pays.Add(pays, product(share, whole(m.Pay[to])))
		}
		if got := mustPays(t, m); !same(got, pays) {
			t.Fatal(m, got, pays)
		}
	}
}

// P1.14: states with other numbers.
func TestTurned(t *testing.T) {
	orders := [][]int{{0}, {1, 0}, {1, 2, 0}, {2, 1, 0}, {3, 2, 1, 0}, {1, 3, 0, 2}, {0, 2, 3, 1}}
	for _, m := range settled() {
		shares, pays := mustShares(t, m), mustPays(t, m)
		for _, order := range orders {
			if len(order) != len(m.Next) {
				continue
			}
			other := ordered(m, order)
			if !same(mustPays(t, other), pays) {
				t.Fatal(m, order)
			}
			for i, share := range mustShares(t, other) {
				if !same(share, shares[order[i]]) {
					t.Fatal(m, order)
				}
			}
		}
	}
}

// ordered returns the machine whose state i is the state order[i].
func ordered(m api.WheelMachine, order []int) api.WheelMachine {
	out := api.WheelMachine{Size: m.Size}
	for _, from := range order {
		out.Pay = append(out.Pay, m.Pay[from])
		list := []int64{}
		for _, to := range order {
			list = append(list, m.Next[from][to])
		}
		out.Next = append(out.Next, list)
	}
	return out
}

// P1.14: as many times as much, and so many coppers more.
func TestPaysInProportion(t *testing.T) {
	for _, m := range settled() {
		for i := range m.Pay {
			m.Pay[i] %= 301
		}
		pays := mustPays(t, m)
		for _, c := range [][2]int64{{0, 0}, {0, 7}, {1, 700}, {2, 0}, {3, 100}} {
			other := cloned(m)
			for i := range other.Pay {
				other.Pay[i] = c[0]*m.Pay[i] + c[1]
			}
			if want := sum(product(whole(c[0]), pays), whole(c[1])); !same(mustPays(t, other), want) {
				t.Fatal(m, c, want)
			}
		}
	}
}

// P1.14: a wheel with as many times as many places.
func TestWheelInProportion(t *testing.T) {
	r := row{at: 3}
	for range 500 {
		m := r.machine()
		m.Size = 1 + m.Size%5
		for i := range m.Next {
			m.Next[i] = r.list(len(m.Next), m.Size)
		}
		for _, times := range []int64{2, 3, 4} {
			other := cloned(m)
			other.Size *= times
			for _, list := range other.Next {
				for to := range list {
					list[to] *= times
				}
			}
			if one, two := answersOf(m), answersOf(other); !one.equal(two) {
				t.Fatal(m, times, one, two)
			}
		}
	}
}

// P1.15: a state that pays more.
func TestPaysMore(t *testing.T) {
	for _, m := range settled() {
		pays, shares := mustPays(t, m), mustShares(t, m)
		for state := range m.Pay {
			for _, more := range []int64{1, 13, api.MaxWheelPay - m.Pay[state]} {
				if m.Pay[state]+more > api.MaxWheelPay {
					continue
				}
				other := cloned(m)
				other.Pay[state] += more
				want := sum(pays, product(shares[state], whole(more)))
				if got := mustPays(t, other); !same(got, want) {
					t.Fatal(m, state, more, got, want)
				}
			}
		}
	}
}

// P1.6: examples of the chapter, and others.
func TestFirstOfSome(t *testing.T) {
	great := machine(20, longs(1000, 1000, 999, 1000), 17, 1, 1, 1, 1, 17, 1, 1, 1, 1, 17, 1, 1, 1, 1, 17)
	for i, c := range []struct {
		m            api.WheelMachine
		state, plays int
		want         api.Ratio
	}{
		{machineW(), 0, 0, by(0, 1)},
		{machineW(), 1, 0, by(0, 1)},
		{machineW(), 0, 1, by(0, 1)},
		{machineW(), 0, 2, by(3, 2)},
		{machineW(), 0, 3, by(27, 8)},
		{machineW(), 1, 1, by(6, 1)},
		{machineW(), 1, 2, by(9, 1)},
		{machineY(), 0, 10, by(20, 1)},
		{machineY(), 1, 9, by(19, 1)},
		{machineX(), 0, 4, by(7, 1)},
		{machine(20, longs(1000), 20), 0, 10, by(10000, 1)},
		{great, 2, 1, by(999, 1)},
		{great, 2, 2, by(39963, 20)},
	} {
		if r, e := wheel.First(c.m, c.state, c.plays); r != c.want || e != api.OK {
			t.Error(i, r, e)
		}
	}
}

// P1.6: how likely the machine is in each state is followed from play to play.
func TestFirst(t *testing.T) {
	for i, m := range machines() {
		if i > 600 {
			break
		}
		for state := range m.Next {
			at := make([]*big.Rat, len(m.Next))
			for to := range at {
				at[to] = new(big.Rat)
			}
			at[state] = whole(1)
			paid := new(big.Rat)
			for plays := 0; plays <= api.MaxWheelPlays; plays++ {
				if got := mustFirst(t, m, state, plays); !same(got, paid) {
					t.Fatal(m, state, plays, got, paid)
				}
				for from, likely := range at {
					paid.Add(paid, product(likely, whole(m.Pay[from])))
				}
				at = played(m, at)
			}
		}
	}
}

func played(m api.WheelMachine, at []*big.Rat) []*big.Rat {
	out := make([]*big.Rat, len(at))
	for to := range out {
		out[to] = new(big.Rat)
		for from, likely := range at {
			out[to].Add(out[to], product(likely, big.NewRat(m.Next[from][to], m.Size)))
		}
	}
	return out
}
