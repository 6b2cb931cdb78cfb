package wheel_test

import (
	"math"
	"reflect"
	"slices"
	"sync"
	"testing"

	"pennyfall/api"
	"pennyfall/wheel"
)

// answers is what all functions return of a machine.
type answers struct {
	Errors  []api.Errno
	Parts   [][]int
	Periods []int
	Ratios  []api.Ratio // of Lands, Pays, Shares, First and Between
	Proof   api.WheelProof
}

func (a answers) equal(b answers) bool { return reflect.DeepEqual(a, b) }

func (a *answers) keep(e api.Errno, list ...api.Ratio) {
	a.Errors = append(a.Errors, e)
	a.Ratios = append(a.Ratios, list...)
}

func answersOf(m api.WheelMachine) answers {
	out := answers{Errors: []api.Errno{wheel.CheckMachine(m), wheel.CheckReading(m), wheel.Settles(m)}}
	var e api.Errno
	out.Parts, e = wheel.Parts(m)
	out.keep(e)
	for part := range len(out.Parts) + 1 {
		period, e := wheel.Period(m, part)
		out.keep(e)
		out.Periods = append(out.Periods, period)
		for state := range len(m.Next) + 1 {
			lands, e := wheel.Lands(m, state, part)
			out.keep(e, lands)
		}
	}
	shares, e := wheel.Shares(m)
	out.keep(e, shares...)
	pays, e := wheel.Pays(m)
	out.keep(e, pays)
	for state := range len(m.Next) + 1 {
		for plays := range 12 {
			first, e := wheel.First(m, state, plays)
			out.keep(e, first)
		}
	}
	low, high, e := wheel.Between(m)
	out.keep(e, low, high)
	out.Proof, e = wheel.Proof(m)
	out.keep(e)
	return out
}

// P1: whatever the arguments are, all functions end and do not panic.
func TestAnyArguments(t *testing.T) {
	r := row{at: 5}
	extreme := longs(math.MinInt64, -1, 0, 1, 2, 20, 21, 1<<40, 1<<50, math.MaxInt64)
	number := func() int64 { return extreme[r.below(int64(len(extreme)))] }
	list := func() []int64 {
		var out []int64
		for range r.below(6) {
			out = append(out, number())
		}
		return out
	}
	for range 3000 {
		m := api.WheelMachine{Size: number(), Pay: list()}
		for range r.below(6) {
			m.Next = append(m.Next, list())
		}
		if r.below(2) == 0 {
			m = r.machine()
		}
		wheel.Lands(m, int(number()), int(number()))
		wheel.Period(m, int(number()))
		wheel.First(m, int(number()), int(number()))
		wheel.CheckProof(m, api.WheelProof{Den: number(), Gain: number(), Heights: list()})
		answersOf(m)
	}
}

// R3: a nil list is an empty one.
func TestNilAndEmpty(t *testing.T) {
	one := api.WheelMachine{Size: 1, Next: [][]int64{nil}}
	two := api.WheelMachine{Size: 1, Next: [][]int64{{}}, Pay: []int64{}}
	if a, b := answersOf(one), answersOf(two); !a.equal(b) {
		t.Error(a, b)
	}
	one, two = api.WheelMachine{}, api.WheelMachine{Next: [][]int64{}, Pay: []int64{}}
	if a, b := answersOf(one), answersOf(two); !a.equal(b) {
		t.Error(a, b)
	}
	for _, heights := range [][]int64{nil, {}} {
		if _, e := wheel.CheckProof(machineW(), api.WheelProof{Den: 1, Heights: heights}); e != api.ErrEqual {
			t.Error(e)
		}
	}
}

// R4: no argument is changed, not even behind the end of a list.
func TestArgumentsStay(t *testing.T) {
	for i, m := range append(readings(), machines()...) {
		if i > 800 {
			break
		}
		before := cloned(m)
		for k, list := range m.Next {
			m.Next[k] = append(slices.Clone(list), 77, 78)[:len(list)]
		}
		m.Pay = append(slices.Clone(m.Pay), 79)[:len(m.Pay)]
		answersOf(m)
		p := api.WheelProof{Den: 5, Gain: 6, Heights: slices.Clone(m.Pay)}
		wheel.CheckProof(m, p)
		if !reflect.DeepEqual(m, before) || !slices.Equal(p.Heights, m.Pay) || p.Den != 5 || p.Gain != 6 {
			t.Fatal(m, before, p)
		}
		for _, list := range m.Next {
			if behind := list[:len(list)+2]; behind[len(list)] != 77 || behind[len(list)+1] != 78 {
				t.Fatal(i, behind)
			}
		}
		if behind := m.Pay[:len(m.Pay)+1]; behind[len(m.Pay)] != 79 {
			t.Fatal(i, behind)
		}
	}
}

// R4, R9 and R10: a result that is changed changes no other one, and no argument.
func TestResultsAreApart(t *testing.T) {
	for _, m := range []api.WheelMachine{machineW(), machineX(), machineY(), broke(), machine(1, longs(1, 2, 3), 1, 0, 0, 0, 1, 0, 0, 0, 1)} {
		before, first := cloned(m), answersOf(m)
		parts := mustParts(t, m)
		for i := range parts {
			parts[i] = append(parts[i], 99)
			parts[i][0] = 98
		}
		for _, part := range parts {
			if part[0] != 98 || slices.Contains(part[1:], 98) || part[len(part)-1] != 99 {
				t.Error(parts)
			}
		}
		if wheel.Settles(m) == api.OK {
			shares, _ := wheel.Shares(m)
			shares[0] = by(5, 5)
			p := mustProof(t, m)
			p.Heights[0] = 123
		}
		if !reflect.DeepEqual(m, before) || !answersOf(m).equal(first) {
			t.Error(m)
		}
	}
}

// R9 and R10: equal calls return equal results, in whatever order and at once.
func TestAgain(t *testing.T) {
	list := machines()[:100]
	want := make([]answers, len(list))
	for i, m := range list {
		want[i] = answersOf(m)
	}
	var wait sync.WaitGroup
	for from := range 8 {
		wait.Go(func() {
			for k := range list {
				i := (k*7 + from*13) % len(list)
				if got := answersOf(list[i]); !got.equal(want[i]) {
					t.Error(list[i], got, want[i])
				}
			}
		})
	}
	wait.Wait()
}
