package wheel_test

import (
	"math"
	"math/big"
	"slices"
	"testing"

	"pennyfall/api"
	"pennyfall/wheel"
)

// P1.5: examples of the chapter, the limits, and proofs that are not valid.
func TestCheckProofOfSome(t *testing.T) {
	const den, height = api.MaxWheelDen, api.MaxWheelHeight
	single := machine(20, longs(1000), 20)
	for i, c := range []struct {
		m    api.WheelMachine
		p    api.WheelProof
		kind int
		e    api.Errno
	}{
		{machineW(), proofOf(1, 2, 0, 8), api.WheelJust, api.OK},
		{machineW(), proofOf(1, 2, -8, 0), api.WheelJust, api.OK},
		{machineW(), proofOf(1, 3, 0, 8), api.WheelMost, api.OK},
		{machineW(), proofOf(1, 1, 0, 8), api.WheelLeast, api.OK},
		{machineW(), proofOf(2, 4, 6, 22), api.WheelJust, api.OK},
		{machineW(), proofOf(1, 2, 0, 0), 0, api.ErrSum},
		// as at most at one state, as at least at the other one
		{machineW(), proofOf(1, 2, 0, 7), 0, api.ErrSum},
		{machineW(), proofOf(1, 2, 0, 9), 0, api.ErrSum},
		// a machine that does not settle has proofs, too
		{machineX(), proofOf(1, 4, 0, 0, 0), api.WheelMost, api.OK},
		{machineX(), proofOf(1, 0, 0, 0, 0), api.WheelLeast, api.OK},
		{machineX(), proofOf(1, 2, 0, 0, 0), 0, api.ErrSum},
		{machine(1, longs(3, 3), 1, 0, 0, 1), proofOf(1, 3, 0, 99), api.WheelJust, api.OK},
		// at the limits
		{machineW(), proofOf(den, 2*den, 0, 8*den), api.WheelJust, api.OK},
		{machineW(), proofOf(den, height, height, height), api.WheelMost, api.OK},
		{machineW(), proofOf(den, -height, -height, -height), api.WheelLeast, api.OK},
		{single, proofOf(den, 1000*den, height), api.WheelJust, api.OK},
		{single, proofOf(den, 1000*den, -height), api.WheelJust, api.OK},
		{single, proofOf(den, 1000*den+1, height), api.WheelMost, api.OK},
		{single, proofOf(den, 1000*den-1, -height), api.WheelLeast, api.OK},
		{machineY(), proofOf(den, height, height, -height), 0, api.ErrSum},
		{machine(20, longs(1000, 1000), 0, 20, 0, 20), proofOf(den, height, -height, height), 0, api.ErrSum},
		{machine(20, longs(1000, 1000), 0, 20, 0, 20), proofOf(den, height, height, -height), api.WheelMost, api.OK},
		{machine(20, longs(1000, 1000), 0, 20, 0, 20), proofOf(den, -height, -height, height), api.WheelLeast, api.OK},
		// not a height for each state, whatever the numbers are
		{machineW(), proofOf(1, 2), 0, api.ErrEqual},
		{machineW(), proofOf(1, 2, 0), 0, api.ErrEqual},
		{machineW(), proofOf(1, 2, 0, 8, 0), 0, api.ErrEqual},
		{machineW(), proofOf(0, height+1, 0), 0, api.ErrEqual},
		{machineX(), api.WheelProof{}, 0, api.ErrEqual},
		// numbers that are not as described
		{machineW(), proofOf(0, 2, 0, 8), 0, api.ErrRange},
		{machineW(), proofOf(-1, 2, 0, 8), 0, api.ErrRange},
		{machineW(), proofOf(math.MinInt64, 2, 0, 8), 0, api.ErrRange},
		{machineW(), proofOf(den+1, 2, 0, 8), 0, api.ErrRange},
		{machineW(), proofOf(1, height+1, 0, 8), 0, api.ErrRange},
		{machineW(), proofOf(1, -height-1, 0, 8), 0, api.ErrRange},
		{machineW(), proofOf(1, math.MinInt64, 0, 8), 0, api.ErrRange},
		{machineW(), proofOf(1, math.MaxInt64, 0, 8), 0, api.ErrRange},
		{machineW(), proofOf(1, 2, height+1, 8), 0, api.ErrRange},
		{machineW(), proofOf(1, 2, 0, height+1), 0, api.ErrRange},
		{machineW(), proofOf(1, 2, -height-1, 8), 0, api.ErrRange},
		{machineW(), proofOf(1, 2, 0, -height-1), 0, api.ErrRange},
		{machineW(), proofOf(1, 2, math.MinInt64, math.MaxInt64), 0, api.ErrRange},
		{single, proofOf(1, 1000, math.MaxInt64), 0, api.ErrRange},
	} {
		if kind, e := wheel.CheckProof(c.m, c.p); kind != c.kind || e != c.e {
			t.Error(i, kind, e)
		}
	}
}

// kindOf returns what a proof proves, in numbers that have no limit.
func kindOf(m api.WheelMachine, p api.WheelProof) int {
	most, least := true, true
	for from, list := range m.Next {
		reached := product(whole(m.Size*m.Pay[from]), whole(p.Den))
		for to, many := range list {
			reached.Add(reached, product(whole(many), whole(p.Heights[to])))
		}
		order := reached.Cmp(product(whole(m.Size), sum(whole(p.Gain), whole(p.Heights[from]))))
		most, least = most && order <= 0, least && order >= 0
	}
	switch {
	case most && least:
		return api.WheelJust
	case most:
		return api.WheelMost
	case least:
		return api.WheelLeast
	}
	return 0
}

// P1.5 and P1.8: proofs near exact ones, and any others.
func TestCheckProof(t *testing.T) {
	r := row{at: 8}
	kinds := map[int]int{}
	for _, m := range machines() {
		proofs := []api.WheelProof{anyProof(&r, len(m.Next))}
		if wheel.Settles(m) == api.OK {
			proofs = append(proofs, near(mustProof(t, m))...)
		}
		for _, p := range proofs {
			want := kindOf(m, p)
			kind, e := wheel.CheckProof(m, p)
			if kind != want || (want == 0) != (e == api.ErrSum) || (want != 0) != (e == api.OK) {
				t.Fatal(m, p, kind, want, e)
			}
			kinds[kind]++
			checkProven(t, m, p, kind)
		}
	}
	for kind := range 4 {
		if kinds[kind] < 100 {
			t.Error("too few proofs of the kind", kind, kinds[kind])
		}
	}
}

// anyProof returns numbers within the limits, with no relation to a machine.
func anyProof(r *row, states int) api.WheelProof {
	p := api.WheelProof{Den: 1 + r.below(api.MaxWheelDen), Gain: r.below(2*api.MaxWheelHeight+1) - api.MaxWheelHeight}
	for range states {
		p.Heights = append(p.Heights, r.below(2*api.MaxWheelHeight+1)-api.MaxWheelHeight)
	}
	return p
}

// near returns an exact proof, and others that differ from it by little.
func near(p api.WheelProof) []api.WheelProof {
	out := []api.WheelProof{p}
	for _, more := range []int64{-1, 1} {
		q := p
		q.Gain += more
		out = append(out, q)
		for state := range p.Heights {
			q := p
			q.Heights = slices.Clone(p.Heights)
			q.Heights[state] += more
			q.Gain += more * 2
			out = append(out, q)
			q.Gain -= more * 2
			out = append(out, q)
		}
	}
	return out
}

// checkProven checks P1.8: a proof proves of the long-run pay what its kind says.
func checkProven(t *testing.T, m api.WheelMachine, p api.WheelProof, kind int) {
	t.Helper()
	if wheel.Settles(m) != api.OK {
		return
	}
	order := mustPays(t, m).Cmp(big.NewRat(p.Gain, p.Den))
	if kind&api.WheelMost != 0 && order > 0 || kind&api.WheelLeast != 0 && order < 0 {
		t.Fatal(m, p, kind, order)
	}
}

// P1.5 and P1.8: the proof that Proof returns.
func TestProof(t *testing.T) {
	for _, m := range settled() {
		p := mustProof(t, m)
		if kind, e := wheel.CheckProof(m, p); kind != api.WheelJust || e != api.OK {
			t.Fatal(m, p, kind, e)
		}
		if !same(big.NewRat(p.Gain, p.Den), mustPays(t, m)) {
			t.Fatal(m, p)
		}
	}
}

// P1.12: the first plays pay nearly as many times the long-run pay.
func TestNear(t *testing.T) {
	for i, m := range settled() {
		if i > 600 {
			break
		}
		p := mustProof(t, m)
		low, high := big.NewRat(slices.Min(p.Heights), p.Den), big.NewRat(slices.Max(p.Heights), p.Den)
		for state := range m.Next {
			for plays := 0; plays <= api.MaxWheelPlays; plays++ {
				less := sum(product(whole(int64(plays)), mustPays(t, m)), big.NewRat(p.Heights[state], p.Den))
				less.Sub(less, mustFirst(t, m, state, plays))
				if less.Cmp(low) < 0 || less.Cmp(high) > 0 {
					t.Fatal(m, p, state, plays, less)
				}
			}
		}
	}
}
