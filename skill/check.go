package skill

import "pennyfall/api"

// within tells whether all numbers are from least to most.
func within(least, most int, numbers ...int) bool {
	for _, n := range numbers {
		if n < least || n > most {
			return false
		}
	}
	return true
}

// arePositions tells whether a list is a strictly increasing one of positions,
// of a machine that has so many.
func arePositions(many int, list []int) bool {
	for i, p := range list {
		if i > 0 && p <= list[i-1] {
			return false
		}
	}
	return within(0, many-1, list...)
}

// isPosition tells whether a valid machine has the position.
func isPosition(m api.SkillMachine, p int) bool {
	return within(0, len(m.Moves)-1, p)
}

// checkFrom returns the error of CheckMachine, and then that of a position.
func checkFrom(m api.SkillMachine, from int) api.Errno {
	if e := CheckMachine(m); e != api.OK {
		return e
	}
	if !isPosition(m, from) {
		return api.ErrArg
	}
	return api.OK
}
