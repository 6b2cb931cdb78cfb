package plea_test

import (
	"slices"
	"testing"

	"pennyfall/api"
)

func ints(list ...int) []int { return list }

// rule says that a fact is true, or -1, if some others all are.
func rule(then int, all ...int) api.PleaRule { return api.PleaRule{If: all, Then: then} }

// cased returns a case.
func cased(facts int, seen []int, rules ...api.PleaRule) api.PleaCase {
	return api.PleaCase{Facts: facts, Seen: seen, Rules: rules}
}

// caseC and caseD are those of the chapter.
func caseC() api.PleaCase {
	return cased(7, ints(0, 1), rule(2, 0, 1), rule(3, 2), rule(-1, 3, 4), rule(4, 5), rule(3, 0, 1))
}

func caseD() api.PleaCase { return seeing(caseC(), ints(0, 1, 4)) }

// row is a case in which each fact leads to the next one, the last one to the one
// before it, and so on, by rules that come in the opposite order.
func row() api.PleaCase {
	c := cased(12, ints(0))
	for fact := 11; fact > 0; fact-- {
		c.Rules = append(c.Rules, rule(fact, fact-1))
	}
	return c
}

func cloned(c api.PleaCase) api.PleaCase {
	out := cased(c.Facts, slices.Clone(c.Seen))
	for _, r := range c.Rules {
		out.Rules = append(out.Rules, rule(r.Then, slices.Clone(r.If)...))
	}
	return out
}

// seeing returns a case with other facts seen.
func seeing(c api.PleaCase, seen []int) api.PleaCase {
	out := cloned(c)
	out.Seen = seen
	return out
}

// with returns a case with one more rule.
func with(c api.PleaCase, r api.PleaRule) api.PleaCase {
	out := cloned(c)
	out.Rules = append(out.Rules, r)
	return out
}

// lacking returns a case without one of its rules.
func lacking(c api.PleaCase, at int) api.PleaCase {
	out := cloned(c)
	out.Rules = slices.Delete(out.Rules, at, at+1)
	return out
}

// dropped returns a list without one of its elements.
func dropped(list []int, at int) []int { return slices.Delete(slices.Clone(list), at, at+1) }

// setOf returns the number that has the bits of a list.
func setOf(list []int) int {
	out := 0
	for _, x := range list {
		out |= 1 << x
	}
	return out
}

// members returns the elements whose bits a number has.
func members(set int) []int {
	var out []int
	for at := 0; set>>at > 0; at++ {
		if set>>at&1 == 1 {
			out = append(out, at)
		}
	}
	return out
}

// covers tells whether a set has all of another one.
func covers(set, other int) bool { return set&other == other }

// broken tells whether a set of facts breaks a rule.
func broken(r api.PleaRule, set int) bool {
	return covers(set, setOf(r.If)) && (r.Then < 0 || set>>r.Then&1 == 0)
}

// table is what the definitions say of a case, whichever facts are seen.
type table struct {
	c      api.PleaCase
	breaks []int  // of each set of facts, the set of rules that it breaks
	hasAny []bool // of each set of facts, whether there is a truth if these are seen
	led    []int  // of each set of facts, all that cannot be wrong if these are seen and no rule leads to a contradiction
}

func tableOf(c api.PleaCase) table {
	all := 1 << c.Facts
	out := table{c: c, breaks: make([]int, all), hasAny: make([]bool, all), led: make([]int, all)}
	leading := 0
	for i, r := range c.Rules {
		if r.Then >= 0 {
			leading |= 1 << i
		}
	}
	for set := all - 1; set >= 0; set-- {
		for i, r := range c.Rules {
			if broken(r, set) {
				out.breaks[set] |= 1 << i
			}
		}
		out.hasAny[set], out.led[set] = out.breaks[set] == 0, all-1
		if out.breaks[set]&leading == 0 {
			out.led[set] = set
		}
		for fact := range c.Facts { // with one more fact seen
			if more := set | 1<<fact; more != set {
				out.hasAny[set] = out.hasAny[set] || out.hasAny[more]
				out.led[set] &= out.led[more]
			}
		}
	}
	return out
}

// seen returns the set of facts that were.
func (w table) seen() int { return setOf(w.c.Seen) }

// contradicts tells whether the case does.
func (w table) contradicts() bool { return !w.hasAny[w.seen()] }

// truths returns all of them, as sets.
func (w table) truths() []int {
	var out []int
	for set, rules := range w.breaks {
		if rules == 0 && covers(set, w.seen()) {
			out = append(out, set)
		}
	}
	return out
}

// leads tells whether steps lead to a fact if some are seen.
func (w table) leads(seen, fact int) bool { return w.led[seen]>>fact&1 == 1 }

// verdict returns what becomes of a fact.
func (w table) verdict(fact int) (int, api.Errno) {
	truths := w.truths()
	many := 0
	for _, set := range truths {
		many += set >> fact & 1
	}
	switch {
	case len(truths) == 0:
		return 0, api.ErrPlea
	case many == len(truths):
		return api.PleaPaid, api.OK
	case many == 0:
		return api.PleaRefused, api.OK
	}
	return api.PleaOpen, api.OK
}

// fewest returns the first, in lexicographic order, of the shortest lists of facts
// that were seen and are good, or ErrNone.
func (w table) fewest(isGood func(set int) bool) ([]int, api.Errno) {
	var out []int
	e := api.ErrNone
	for set := range w.breaks {
		if !covers(w.seen(), set) || !isGood(set) {
			continue
		}
		list := members(set)
		if e != api.OK || len(list) < len(out) || len(list) == len(out) && slices.Compare(list, out) < 0 {
			out, e = list, api.OK
		}
	}
	return out, e
}

// isIdle tells whether no set of facts breaks just a rule.
func (w table) isIdle(rule int) bool { return !slices.Contains(w.breaks, 1<<rule) }

// follow returns the set of facts to which steps lead, whether they lead to a
// contradiction, and whether they hold, by the definition.
func follow(c api.PleaCase, steps []int) (set int, isClash, hold bool) {
	set = setOf(c.Seen)
	for _, at := range steps {
		r := c.Rules[at]
		if isClash || !covers(set, setOf(r.If)) {
			return 0, false, false
		}
		if r.Then < 0 {
			isClash = true
		} else {
			set |= 1 << r.Then
		}
	}
	return set, isClash, true
}

// orders returns all lists that have some numbers below most, each at most once.
func orders(most int) [][]int {
	out := [][]int{nil}
	for i := 0; i < len(out); i++ {
		for x := range most {
			if !slices.Contains(out[i], x) {
				out = append(out, append(slices.Clone(out[i]), x))
			}
		}
	}
	return out
}

// must returns what a function tells of a valid case.
func must[T any](t *testing.T, ask func(c api.PleaCase) (T, api.Errno), c api.PleaCase) T {
	t.Helper()
	out, e := ask(c)
	if e != api.OK {
		t.Fatal(c, out, e)
	}
	return out
}
