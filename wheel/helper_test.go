package wheel_test

import (
	"math"
	"math/big"
	"slices"
	"testing"

	"pennyfall/api"
	"pennyfall/wheel"
)

const (
	leastInt = math.MinInt
	mostInt  = math.MaxInt
)

func by(num, den int64) api.Ratio { return api.Ratio{Num: num, Den: den} }

func longs(list ...int64) []int64 { return list }

func proofOf(den, gain int64, heights ...int64) api.WheelProof {
	return api.WheelProof{Den: den, Gain: gain, Heights: heights}
}

// machine lays out the numbers of Next, all lists behind one another.
func machine(size int64, pay []int64, next ...int64) api.WheelMachine {
	m := api.WheelMachine{Size: size, Pay: pay}
	for i := 0; i < len(next); i += len(pay) {
		m.Next = append(m.Next, next[i:i+len(pay)])
	}
	return m
}

// The machines W, X and Y, and the reading R, of the chapter.
func machineW() api.WheelMachine { return machine(4, longs(0, 6), 3, 1, 2, 2) }
func machineX() api.WheelMachine { return machine(2, longs(1, 0, 4), 0, 1, 1, 0, 2, 0, 0, 0, 2) }
func machineY() api.WheelMachine { return machine(1, longs(1, 3), 0, 1, 1, 0) }
func readingR() api.WheelMachine { return machine(4, longs(0, 6), 2, 1, 1, 1) }

// broke is a gambler of one copper: the states 0 and 3 are never left.
func broke() api.WheelMachine {
	return machine(3, longs(0, 5, 7, 100), 3, 0, 0, 0, 2, 0, 1, 0, 0, 2, 0, 1, 0, 0, 0, 3)
}

func cloned(m api.WheelMachine) api.WheelMachine {
	out := api.WheelMachine{Size: m.Size, Pay: slices.Clone(m.Pay)}
	for _, list := range m.Next {
		out.Next = append(out.Next, slices.Clone(list))
	}
	return out
}

// row is numbers that seem to be chance, and are the same in each run.
type row struct{ at uint64 }

func (r *row) below(n int64) int64 {
	r.at = r.at*6364136223846793005 + 1442695040888963407
	return int64((r.at >> 33) % uint64(n))
}

// list returns numbers with the sum; about half of them are 0.
func (r *row) list(states int, sum int64) []int64 {
	out := make([]int64, states)
	for sum > 0 {
		n := 1 + r.below(sum)
		out[r.below(int64(states))] += n
		sum -= n
	}
	return out
}

func (r *row) machine() api.WheelMachine {
	states := int(1 + r.below(api.MaxWheelStates))
	m := api.WheelMachine{Size: 1 + r.below(api.MaxWheelSize)}
	for range states {
		m.Pay = append(m.Pay, r.below(api.MaxWheelPay+1))
		m.Next = append(m.Next, r.list(states, m.Size))
	}
	return m
}

// machines returns many machines, of all kinds: the chapter's ones, great ones,
// such as settle and such as do not.
func machines() []api.WheelMachine {
	out := []api.WheelMachine{
		machineW(), machineX(), machineY(), broke(),
		machine(1, longs(0), 1),
		machine(20, longs(1000), 20),
		machine(20, longs(1000, 0, 1000, 7), 5, 5, 5, 5, 5, 5, 5, 5, 5, 5, 5, 5, 5, 5, 5, 5),
		machine(20, longs(0, 0, 0, 1000), 19, 1, 0, 0, 19, 0, 1, 0, 19, 0, 0, 1, 20, 0, 0, 0),
		machine(20, longs(1000, 1000, 1000, 999), 19, 1, 0, 0, 0, 19, 1, 0, 0, 0, 19, 1, 1, 0, 0, 19),
		machine(20, longs(1000, 0, 0, 0), 19, 1, 0, 0, 1, 18, 1, 0, 0, 1, 18, 1, 0, 0, 1, 19),
		machine(20, longs(0, 1000, 0, 1000), 19, 1, 0, 0, 0, 19, 1, 0, 0, 0, 19, 1, 0, 0, 0, 20),
		machine(20, longs(5, 6, 7, 8), 17, 1, 1, 1, 1, 17, 1, 1, 1, 1, 17, 1, 1, 1, 1, 17),
		machine(2, longs(9, 1), 1, 1, 0, 2),
		machine(2, longs(1, 9), 2, 0, 1, 1),
		machine(3, longs(0, 0, 0, 0), 0, 3, 0, 0, 0, 0, 3, 0, 0, 0, 0, 3, 3, 0, 0, 0),
	}
	r := row{at: 1}
	for range 3000 {
		out = append(out, r.machine())
	}
	return out
}

// settled returns those of the machines that settle.
func settled() []api.WheelMachine {
	return slices.DeleteFunc(machines(), func(m api.WheelMachine) bool { return wheel.Settles(m) != api.OK })
}

// shapes calls do with a machine for each way in which its states can lead to
// one another by one play; all places that a state has are used evenly.
func shapes(do func(m api.WheelMachine)) {
	for states := 1; states <= api.MaxWheelStates; states++ {
		for shape := range 1 << (states * states) {
			if m, ok := shaped(states, shape); ok {
				do(m)
			}
		}
	}
}

func shaped(states, shape int) (api.WheelMachine, bool) {
	m := api.WheelMachine{Size: 12, Pay: make([]int64, states)}
	for range states {
		list := make([]int64, states)
		goals := int64(0)
		for to := range list {
			list[to] = int64(shape & 1)
			goals += list[to]
			shape >>= 1
		}
		if goals == 0 {
			return m, false
		}
		for to := range list {
			list[to] *= m.Size / goals
		}
		m.Next = append(m.Next, list)
	}
	return m, true
}

// leads returns, by the definition, whether a state leads to another one.
func leads(m api.WheelMachine) [][]bool {
	states := len(m.Next)
	out := make([][]bool, states)
	for from := range out {
		out[from] = make([]bool, states)
		for to := range out[from] {
			out[from][to] = m.Next[from][to] > 0
		}
	}
	for over := range states {
		for from := range states {
			for to := range states {
				out[from][to] = out[from][to] || out[from][over] && out[over][to]
			}
		}
	}
	return out
}

// partsOf looks at all lists of states for those that are closed parts.
func partsOf(m api.WheelMachine) [][]int {
	lead := leads(m)
	var out [][]int
	for first := range m.Next {
		for set := 1; set < 1<<len(m.Next); set++ {
			list := members(set)
			if list[0] == first && isClosed(lead, set) {
				out = append(out, list)
			}
		}
	}
	return out
}

func members(set int) []int {
	var out []int
	for state := 0; set>>state > 0; state++ {
		if set>>state&1 == 1 {
			out = append(out, state)
		}
	}
	return out
}

func isClosed(lead [][]bool, set int) bool {
	for _, from := range members(set) {
		for to := range lead {
			if lead[from][to] != (set>>to&1 == 1) {
				return false
			}
		}
	}
	return true
}

func rat(r api.Ratio) *big.Rat { return big.NewRat(r.Num, r.Den) }

func whole(n int64) *big.Rat { return big.NewRat(n, 1) }

// product and sum keep their arguments.
func product(a, b *big.Rat) *big.Rat { return new(big.Rat).Mul(a, b) }
func sum(list ...*big.Rat) *big.Rat {
	out := new(big.Rat)
	for _, x := range list {
		out.Add(out, x)
	}
	return out
}

func same(a, b *big.Rat) bool { return a.Cmp(b) == 0 }

// isLeast tells whether a fraction is as a function has to return it.
func isLeast(r api.Ratio) bool {
	if r.Den <= 0 {
		return false
	}
	x := rat(r)
	return x.Num().Int64() == r.Num && x.Denom().Int64() == r.Den
}

func mustParts(t *testing.T, m api.WheelMachine) [][]int {
	t.Helper()
	p, e := wheel.Parts(m)
	if e != api.OK {
		t.Fatal("Parts", m, e)
	}
	return p
}

func mustLands(t *testing.T, m api.WheelMachine, state, part int) *big.Rat {
	t.Helper()
	r, e := wheel.Lands(m, state, part)
	if e != api.OK || !isLeast(r) {
		t.Fatal("Lands", m, state, part, r, e)
	}
	return rat(r)
}

func mustPays(t *testing.T, m api.WheelMachine) *big.Rat {
	t.Helper()
	r, e := wheel.Pays(m)
	if e != api.OK || !isLeast(r) {
		t.Fatal("Pays", m, r, e)
	}
	return rat(r)
}

func mustShares(t *testing.T, m api.WheelMachine) []*big.Rat {
	t.Helper()
	list, e := wheel.Shares(m)
	if e != api.OK || len(list) != len(m.Next) {
		t.Fatal("Shares", m, list, e)
	}
	var out []*big.Rat
	for _, r := range list {
		if !isLeast(r) {
			t.Fatal("Shares", m, list)
		}
		out = append(out, rat(r))
	}
	return out
}

func mustFirst(t *testing.T, m api.WheelMachine, state, plays int) *big.Rat {
	t.Helper()
	r, e := wheel.First(m, state, plays)
	if e != api.OK || !isLeast(r) {
		t.Fatal("First", m, state, plays, r, e)
	}
	return rat(r)
}

func mustProof(t *testing.T, m api.WheelMachine) api.WheelProof {
	t.Helper()
	p, e := wheel.Proof(m)
	if e != api.OK {
		t.Fatal("Proof", m, p, e)
	}
	return p
}

func mustBetween(t *testing.T, m api.WheelMachine) (*big.Rat, *big.Rat) {
	t.Helper()
	low, high, e := wheel.Between(m)
	if e != api.OK || !isLeast(low) || !isLeast(high) {
		t.Fatal("Between", m, low, high, e)
	}
	return rat(low), rat(high)
}
