package plea

import "pennyfall/api"

// facts is which facts are true.
type facts [api.MaxPleaFacts]bool

// factsOf returns that the facts of a list are true.
func factsOf(list []int) facts {
	var out facts
	for _, fact := range list {
		out[fact] = true
	}
	return out
}

// factsIn returns that the facts are true whose bits a number has.
func factsIn(set int) facts {
	var out facts
	for fact := range out {
		out[fact] = set>>fact&1 == 1
	}
	return out
}

func (f facts) has(fact int) bool { return f[fact] }

// hasAll tells whether all facts of a list are true.
func (f facts) hasAll(list []int) bool {
	for _, fact := range list {
		if !f[fact] {
			return false
		}
	}
	return true
}

// list returns the facts that are true, increasing.
func (f facts) list() []int {
	var out []int
	for fact, isTrue := range f {
		if isTrue {
			out = append(out, fact)
		}
	}
	return out
}
