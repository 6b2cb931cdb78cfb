// Package wheel is layer 1: see shared/doc/01-wheel.md.
package wheel

import "pennyfall/api"

// CheckMachine reports whether a machine is valid. (P1.1)
func CheckMachine(m api.WheelMachine) api.Errno {
	if e := checkNumbers(m); e != api.OK {
		return e
	}
	for _, list := range m.Next {
		if total(list...) != m.Size {
			return api.ErrSum
		}
	}
	return api.OK
}

// Parts returns all closed parts. (P1.2)
func Parts(m api.WheelMachine) ([][]int, api.Errno) {
	b, e := laid(m)
	if e != api.OK {
		return nil, e
	}
	return b.closedParts(), api.OK
}

// Settles reports whether a machine settles. (P1.2)
func Settles(m api.WheelMachine) api.Errno {
	_, e := laidSettled(m)
	return e
}

// Lands returns how likely a machine comes to a closed part. (P1.3)
func Lands(m api.WheelMachine, state, part int) (api.Ratio, api.Errno) {
	b, e := laid(m)
	if e != api.OK {
		return api.Ratio{}, e
	}
	parts := b.closedParts()
	if !isIndex(state, len(m.Next)) || !isIndex(part, len(parts)) {
		return api.Ratio{}, api.ErrArg
	}
	return b.landings(parts, part)[state], api.OK
}

// Period returns the period of a closed part. (P1.3)
func Period(m api.WheelMachine, part int) (int, api.Errno) {
	b, e := laid(m)
	if e != api.OK {
		return 0, e
	}
	parts := b.closedParts()
	if !isIndex(part, len(parts)) {
		return 0, api.ErrArg
	}
	return b.period(parts[part]), api.OK
}

// Shares returns the share of each state. (P1.4)
func Shares(m api.WheelMachine) ([]api.Ratio, api.Errno) {
	b, e := laidSettled(m)
	if e != api.OK {
		return nil, e
	}
	return b.shares(), api.OK
}

// Pays returns the long-run pay. (P1.4)
func Pays(m api.WheelMachine) (api.Ratio, api.Errno) {
	b, e := laidSettled(m)
	if e != api.OK {
		return api.Ratio{}, e
	}
	return b.longRun(), api.OK
}

// CheckProof returns what a proof proves. (P1.5)
func CheckProof(m api.WheelMachine, p api.WheelProof) (int, api.Errno) {
	b, e := laid(m)
	if e != api.OK {
		return 0, e
	}
	if len(p.Heights) != len(m.Next) {
		return 0, api.ErrEqual
	}
	if !within(1, api.MaxWheelDen, p.Den) ||
		!within(-api.MaxWheelHeight, api.MaxWheelHeight, p.Gain) ||
		!within(-api.MaxWheelHeight, api.MaxWheelHeight, p.Heights...) {
		return 0, api.ErrRange
	}
	kind := b.proven(p)
	if kind == 0 {
		return 0, api.ErrSum
	}
	return kind, api.OK
}

// Proof returns a proof of the long-run pay. (P1.5)
func Proof(m api.WheelMachine) (api.WheelProof, api.Errno) {
	b, e := laidSettled(m)
	if e != api.OK {
		return api.WheelProof{}, e
	}
	return b.proof(), api.OK
}

// First returns what the first plays pay. (P1.6)
func First(m api.WheelMachine, state, plays int) (api.Ratio, api.Errno) {
	b, e := laid(m)
	if e != api.OK {
		return api.Ratio{}, e
	}
	if !isIndex(state, len(m.Next)) || !within(0, api.MaxWheelPlays, int64(plays)) {
		return api.Ratio{}, api.ErrArg
	}
	return b.first(state, plays), api.OK
}

// CheckReading reports whether a reading is valid. (P1.7)
func CheckReading(m api.WheelMachine) api.Errno {
	if e := checkNumbers(m); e != api.OK {
		return e
	}
	for _, list := range m.Next {
		if total(list...) > m.Size || list[0] == 0 {
			return api.ErrSum
		}
	}
	return api.OK
}

// Between returns the least and the greatest long-run pay. (P1.7)
func Between(m api.WheelMachine) (api.Ratio, api.Ratio, api.Errno) {
	if e := CheckReading(m); e != api.OK {
		return api.Ratio{}, api.Ratio{}, e
	}
	var all []api.Ratio
	for filling := range fillings(m) {
		all = append(all, newBench(filling).longRun())
	}
	return best(all, isLess), best(all, isGreater), api.OK
}
