package wheel_test

import (
	"math"
	"reflect"
	"testing"

	"pennyfall/api"
	"pennyfall/wheel"
)

// checked is a machine, with what CheckMachine and CheckReading return of it.
type checked struct {
	m       api.WheelMachine
	machine api.Errno
	reading api.Errno
}

func both(m api.WheelMachine, e api.Errno) checked { return checked{m, e, e} }

func checkedMachines() []checked {
	return []checked{
		{machineW(), api.OK, api.OK},
		{machineX(), api.OK, api.ErrSum},
		{machineY(), api.OK, api.ErrSum},
		{readingR(), api.ErrSum, api.OK},
		// at the limits
		both(machine(1, longs(0), 1), api.OK),
		both(machine(20, longs(1000), 20), api.OK),
		both(machine(20, longs(1000, 0, 1000, 0), 17, 1, 1, 1, 20, 0, 0, 0, 1, 0, 0, 19, 5, 5, 5, 5), api.OK),
		// too few and too many lists
		both(api.WheelMachine{}, api.ErrMany),
		both(api.WheelMachine{Size: 1, Next: [][]int64{}, Pay: longs()}, api.ErrMany),
		both(machine(1, longs(0, 0, 0, 0, 0), 1, 0, 0, 0, 0, 1, 0, 0, 0, 0, 1, 0, 0, 0, 0, 1, 0, 0, 0, 0, 1, 0, 0, 0, 0), api.ErrMany),
		both(api.WheelMachine{Size: -1, Next: make([][]int64, 5), Pay: longs(-1)}, api.ErrMany),
		both(api.WheelMachine{Size: -1, Pay: longs(-1)}, api.ErrMany),
		// lists, or pay, without a number for each state
		both(api.WheelMachine{Size: 1, Next: [][]int64{{1}}}, api.ErrEqual),
		both(api.WheelMachine{Size: 1, Next: [][]int64{{1}}, Pay: longs(0, 0)}, api.ErrEqual),
		both(api.WheelMachine{Size: 1, Next: [][]int64{nil}, Pay: longs(0)}, api.ErrEqual),
		both(api.WheelMachine{Size: 1, Next: [][]int64{{1, 0}}, Pay: longs(0)}, api.ErrEqual),
		both(api.WheelMachine{Size: 1, Next: [][]int64{{1, 0}, {1}}, Pay: longs(0, 0)}, api.ErrEqual),
		both(api.WheelMachine{Size: 1, Next: [][]int64{{1, 0}, {1, 0, 0}}, Pay: longs(0, 0)}, api.ErrEqual),
		both(api.WheelMachine{Size: 1, Next: make([][]int64, 4), Pay: longs(0, 0, 0, 0)}, api.ErrEqual),
		// all lists are looked at for their lengths before any number is
		both(api.WheelMachine{Size: 1, Next: [][]int64{{-1, 0}, {1}}, Pay: longs(0, 0)}, api.ErrEqual),
		both(api.WheelMachine{Size: 0, Next: [][]int64{{1, 0}, {1}}, Pay: longs(-1, 0)}, api.ErrEqual),
		both(api.WheelMachine{Size: 1, Next: [][]int64{{2, 2}, {1, 0}}, Pay: longs(2000)}, api.ErrEqual),
		// the size of the wheel
		both(machine(0, longs(0), 0), api.ErrRange),
		both(machine(21, longs(0), 21), api.ErrRange),
		both(machine(-1, longs(0), -1), api.ErrRange),
		both(machine(math.MinInt64, longs(0), math.MinInt64), api.ErrRange),
		both(machine(math.MaxInt64, longs(0), math.MaxInt64), api.ErrRange),
		// the numbers of Next
		both(machine(4, longs(0, 0), 5, -1, 2, 2), api.ErrRange),
		both(machine(4, longs(0, 0), 2, 2, -1, 4), api.ErrRange),
		both(machine(4, longs(0, 0), 2, 2, 4, -1), api.ErrRange),
		both(machine(4, longs(0, 0), 2, 2, 0, 5), api.ErrRange),
		both(machine(4, longs(0, 0), 2, 2, 5, 0), api.ErrRange),
		both(machine(4, longs(0, 0, 0), 4, 0, 0, 4, 0, 0, math.MaxInt64, math.MaxInt64, 6), api.ErrRange),
		both(machine(4, longs(0, 0, 0), 4, 0, 0, 4, 0, 0, 4, math.MinInt64, math.MinInt64), api.ErrRange),
		// what states pay
		both(machine(4, longs(1001, 0), 3, 1, 2, 2), api.ErrRange),
		both(machine(4, longs(0, 1001), 3, 1, 2, 2), api.ErrRange),
		both(machine(4, longs(0, -1), 3, 1, 2, 2), api.ErrRange),
		both(machine(4, longs(-1, 0), 3, 1, 2, 2), api.ErrRange),
		both(machine(4, longs(math.MaxInt64, math.MinInt64), 3, 1, 2, 2), api.ErrRange),
		// all numbers are looked at before any sum is
		both(machine(4, longs(0, 0), 3, 2, 5, 0), api.ErrRange),
		both(machine(4, longs(0, 0), 3, 2, 2, -1), api.ErrRange),
		both(machine(4, longs(0, 1001), 3, 2, 2, 2), api.ErrRange),
		both(machine(4, longs(0, 0), 0, 4, 5, 0), api.ErrRange),
		// sums
		both(machine(4, longs(0, 0), 3, 2, 2, 2), api.ErrSum),
		both(machine(4, longs(0, 0), 3, 1, 2, 3), api.ErrSum),
		both(machine(20, longs(0, 0, 0, 0), 20, 20, 20, 20, 20, 0, 0, 0, 20, 0, 0, 0, 20, 0, 0, 0), api.ErrSum),
		{machine(4, longs(0, 0), 3, 0, 2, 2), api.ErrSum, api.OK},
		{machine(4, longs(0, 0), 3, 1, 1, 2), api.ErrSum, api.OK},
		{machine(20, longs(0), 1), api.ErrSum, api.OK},
		both(machine(20, longs(0), 0), api.ErrSum),
		// no place that leads to the state 0
		{machine(4, longs(0, 0), 4, 0, 0, 4), api.OK, api.ErrSum},
		{machine(4, longs(0, 0), 0, 4, 4, 0), api.OK, api.ErrSum},
		both(machine(4, longs(0, 0), 3, 0, 0, 2), api.ErrSum),
	}
}

// P1.1 and the first half of P1.7.
func TestChecks(t *testing.T) {
	for i, c := range checkedMachines() {
		if e := wheel.CheckMachine(c.m); e != c.machine {
			t.Error("CheckMachine", i, c.m, e)
		}
		if e := wheel.CheckReading(c.m); e != c.reading {
			t.Error("CheckReading", i, c.m, e)
		}
	}
}

// failed is what a function returned with an error: the other results are given behind it.
type failed struct {
	name  string
	e     api.Errno
	other []any
}

// callAll calls all functions that return the error of CheckMachine first, with
// other arguments that are not valid either.
func callAll(m api.WheelMachine) []failed {
	parts, e1 := wheel.Parts(m)
	lands, e2 := wheel.Lands(m, -1, -1)
	period, e3 := wheel.Period(m, -1)
	shares, e4 := wheel.Shares(m)
	pays, e5 := wheel.Pays(m)
	kind, e6 := wheel.CheckProof(m, api.WheelProof{Heights: make([]int64, 9)})
	proof, e7 := wheel.Proof(m)
	first, e8 := wheel.First(m, -1, -1)
	return []failed{
		{"Settles", wheel.Settles(m), nil},
		{"Parts", e1, []any{len(parts)}},
		{"Lands", e2, []any{lands}},
		{"Period", e3, []any{period}},
		{"Shares", e4, []any{len(shares)}},
		{"Pays", e5, []any{pays}},
		{"CheckProof", e6, []any{kind}},
		{"Proof", e7, []any{proof.Den, proof.Gain, len(proof.Heights)}},
		{"First", e8, []any{first}},
	}
}

// All functions return the error of CheckMachine first, and zero values with it.
func TestMachineErrorFirst(t *testing.T) {
	for i, c := range checkedMachines() {
		if low, high, e := wheel.Between(c.m); e != c.reading || e != api.OK && (low != api.Ratio{} || high != api.Ratio{}) {
			t.Error("Between", i, low, high, e)
		}
		if c.machine == api.OK {
			continue
		}
		for _, f := range callAll(c.m) {
			if f.e != c.machine {
				t.Error(f.name, i, f.e)
			}
			for _, x := range f.other {
				if !reflect.ValueOf(x).IsZero() {
					t.Error(f.name, i, f.other)
				}
			}
		}
	}
}

// Arguments beside the machine that are not valid: P1.3, P1.5 and P1.6.
func TestArguments(t *testing.T) {
	for i, c := range []struct {
		m           api.WheelMachine
		state, part int
		want        api.Errno
	}{
		{machineX(), 0, 0, api.OK},
		{machineX(), 2, 1, api.OK},
		{machineX(), 3, 0, api.ErrArg},
		{machineX(), -1, 0, api.ErrArg},
		{machineX(), 0, 2, api.ErrArg},
		{machineX(), 0, -1, api.ErrArg},
		{machineX(), 3, 2, api.ErrArg},
		{machineX(), leastInt, 0, api.ErrArg},
		{machineX(), mostInt, 0, api.ErrArg},
		{machineX(), 0, leastInt, api.ErrArg},
		{machineX(), 0, mostInt, api.ErrArg},
		{machineW(), 0, 1, api.ErrArg},
		{machineW(), 2, 0, api.ErrArg},
		{machineW(), 1, 0, api.OK},
		{broke(), 3, 1, api.OK},
		{broke(), 4, 1, api.ErrArg},
		{broke(), 3, 2, api.ErrArg},
	} {
		if r, e := wheel.Lands(c.m, c.state, c.part); e != c.want || (e != api.OK) != (r == api.Ratio{}) {
			t.Error("Lands", i, r, e)
		}
		if c.state < 0 || c.state >= len(c.m.Next) {
			continue
		}
		if n, e := wheel.Period(c.m, c.part); e != c.want || (e != api.OK) != (n == 0) {
			t.Error("Period", i, n, e)
		}
	}
	for i, c := range []struct {
		state, plays int
		want         api.Errno
	}{
		{0, 0, api.OK}, {1, 10, api.OK}, {0, 11, api.ErrArg}, {0, -1, api.ErrArg}, {2, 1, api.ErrArg}, {-1, 1, api.ErrArg},
		{2, 0, api.ErrArg}, {leastInt, 1, api.ErrArg}, {mostInt, 1, api.ErrArg}, {0, leastInt, api.ErrArg}, {0, mostInt, api.ErrArg},
	} {
		if r, e := wheel.First(machineW(), c.state, c.plays); e != c.want || (e != api.OK) != (r == api.Ratio{}) {
			t.Error("First", i, r, e)
		}
	}
}
