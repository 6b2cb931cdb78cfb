package plea

import "pennyfall/api"

// within tells whether all numbers are from least to most.
func within(least, most int, numbers ...int) bool {
	for _, n := range numbers {
		if n < least || n > most {
			return false
		}
	}
	return true
}

// areFacts tells whether a list has only some of so many facts, strictly increasing.
func areFacts(facts int, list []int) bool {
	before := -1
	for _, fact := range list {
		if !within(before+1, facts-1, fact) {
			return false
		}
		before = fact
	}
	return true
}

// areRules tells whether rules lead only from some of so many facts to one of them,
// or to a contradiction.
func areRules(facts int, rules []api.PleaRule) bool {
	for _, r := range rules {
		if !areFacts(facts, r.If) || !within(contradiction, facts-1, r.Then) {
			return false
		}
	}
	return true
}

// areApart tells whether no rule is twice in a list.
func areApart(list []int) bool {
	var seen [api.MaxPleaRules]bool
	for _, rule := range list {
		if seen[rule] {
			return false
		}
		seen[rule] = true
	}
	return true
}
