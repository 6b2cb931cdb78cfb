package plea_test

import (
	"slices"

	"pennyfall/api"
)

// chance is numbers that seem to be chance, and are the same in each run.
type chance struct{ at uint64 }

func (c *chance) below(n int) int {
	c.at = c.at*6364136223846793005 + 1442695040888963407
	return int((c.at >> 33) % uint64(n))
}

func (c *chance) from(least, most int) int { return least + c.below(most-least+1) }

// oneOf returns some element.
func oneOf[T any](c *chance, list []T) T { return list[c.below(len(list))] }

// some returns so many numbers below most, increasing, or all of them.
func (c *chance) some(many, most int) []int {
	list := members(1<<most - 1)
	for len(list) > many {
		list = dropped(list, c.below(len(list)))
	}
	return list
}

// order returns all numbers below most, in some order.
func (c *chance) order(most int) []int {
	var out []int
	for x := range most {
		out = slices.Insert(out, c.below(len(out)+1), x)
	}
	return out
}

// shuffled returns a list in some order.
func shuffled[T any](c *chance, list []T) []T {
	var out []T
	for _, at := range c.order(len(list)) {
		out = append(out, list[at])
	}
	return out
}

// rules returns all that there can be with so many facts.
func rules(facts int) []api.PleaRule {
	var out []api.PleaRule
	for set := range 1 << facts {
		for then := -1; then < facts; then++ {
			out = append(out, rule(then, members(set)...))
		}
	}
	return out
}

// small returns all cases of one fact with up to three rules, of two facts with up
// to three, and of three facts with up to two.
func small() []api.PleaCase {
	var out []api.PleaCase
	for _, limit := range [][2]int{{1, 3}, {2, 3}, {3, 2}} {
		facts := limit[0]
		lists := [][]api.PleaRule{nil}
		for i := 0; i < len(lists); i++ {
			list := lists[i]
			for seen := range 1 << facts {
				out = append(out, cased(facts, members(seen), list...))
			}
			for _, r := range rules(facts) {
				if len(list) < limit[1] {
					lists = append(lists, append(list[:len(list):len(list)], r))
				}
			}
		}
	}
	return out
}

// any returns a case with so many facts, rules of up to so many facts, and of ten
// rules so many that lead to a contradiction.
func (c *chance) any(facts, most, clashes int) api.PleaCase {
	out := cased(facts, c.some(c.below(facts+1), facts))
	for range c.below(api.MaxPleaRules + 1) {
		then := c.below(facts)
		if c.below(10) < clashes {
			then = -1
		}
		out.Rules = append(out.Rules, rule(then, c.some(c.below(most+1), facts)...))
	}
	return out
}

// chained returns a case in which some facts lead to each other in a row, and
// perhaps to a contradiction, and other rules are among those of the row.
func (c *chance) chained(facts int) api.PleaCase {
	order := c.order(facts)
	out := cased(facts, order[:1])
	for i, fact := range order[1:] {
		all := append(c.some(c.below(2), i), i)
		var list []int
		for _, at := range slices.Compact(all) {
			list = append(list, order[at])
		}
		slices.Sort(list)
		out.Rules = append(out.Rules, rule(fact, list...))
	}
	if c.below(2) == 0 {
		out.Rules = append(out.Rules, rule(-1, order[facts-1]))
	}
	for len(out.Rules) < api.MaxPleaRules && c.below(4) > 0 {
		out.Rules = append(out.Rules, rule(c.below(facts), c.some(c.from(1, 2), facts)...))
	}
	out.Rules = shuffled(c, out.Rules)
	return out
}

// seenMuch returns a case in which nearly all facts were seen, and many pairs of
// them lead to a contradiction, or to the few others.
func (c *chance) seenMuch(facts int) api.PleaCase {
	out := cased(facts, c.some(facts-c.below(4), facts))
	for range c.from(1, api.MaxPleaRules) {
		then := c.from(-1, facts-1)
		if c.below(3) > 0 {
			then = -1
		}
		out.Rules = append(out.Rules, rule(then, c.some(c.from(1, 3), facts)...))
	}
	return out
}

// supported returns a case in which several rules lead to some fact, from different
// facts that were seen, or from others to which they lead.
func (c *chance) supported(facts int) api.PleaCase {
	out := cased(facts, c.some(c.from(facts/2, facts-1), facts))
	fact := c.below(facts)
	if at := slices.Index(out.Seen, fact); at >= 0 && c.below(4) > 0 {
		out.Seen = dropped(out.Seen, at)
	}
	for range c.from(2, api.MaxPleaRules) {
		then := c.below(facts)
		if c.below(2) == 0 {
			then = fact
		}
		out.Rules = append(out.Rules, rule(then, c.some(c.from(1, 4), facts)...))
	}
	return out
}

// gathered returns a case in which rules lead to some fact only from many others,
// that were seen or to which rules lead from one or two that were seen.
func (c *chance) gathered(facts int) api.PleaCase {
	order := c.order(facts)
	seen, goal, others := order[:facts/2], order[facts/2], order[facts/2+1:]
	out := cased(facts, slices.Sorted(slices.Values(seen)))
	for range c.from(1, 3) {
		all := setOf(c.some(c.from(facts/2, facts), facts)) &^ (1 << goal)
		out.Rules = append(out.Rules, rule(goal, members(all)...))
	}
	for _, fact := range others {
		out.Rules = append(out.Rules, rule(fact, adding(ints(oneOf(c, seen)), oneOf(c, seen))...))
	}
	for len(out.Rules) < api.MaxPleaRules && c.below(6) > 0 {
		out.Rules = append(out.Rules, rule(oneOf(c, others), adding(c.some(c.below(3), facts), oneOf(c, seen))...))
	}
	out.Rules = shuffled(c, out.Rules)
	return out
}

// great returns cases of chance, up to the limits.
func great() []api.PleaCase {
	c := chance{at: 1}
	out := []api.PleaCase{caseC(), caseD(), row(), cased(12, c.some(12, 12)), cased(12, nil), cased(1, ints(0))}
	for i := range 600 {
		out = append(out, c.any(c.from(1, api.MaxPleaFacts), []int{2, 3, 5}[i%3], []int{0, 1, 3}[i/3%3]))
	}
	for range 300 {
		out = append(out, c.chained(c.from(2, api.MaxPleaFacts)))
	}
	for range 300 {
		out = append(out, c.seenMuch(c.from(4, api.MaxPleaFacts)))
	}
	for range 300 {
		out = append(out, c.supported(c.from(4, api.MaxPleaFacts)))
	}
	for range 300 {
		out = append(out, c.gathered(c.from(6, api.MaxPleaFacts)))
	}
	return out
}

func all() []api.PleaCase { return append(small(), great()...) }
