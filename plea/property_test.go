package plea_test

import (
	"slices"
	"testing"

	"pennyfall/api"
	"pennyfall/plea"
)

// verdicts returns what becomes of each fact.
func verdicts(c api.PleaCase) ([]int, api.Errno) {
	var out []int
	for fact := range c.Facts {
		verdict, e := plea.Verdict(c, fact)
		if e != api.OK {
			return nil, e
		}
		out = append(out, verdict)
	}
	return out, api.OK
}

// truthsOf returns all truths, as sets.
func truthsOf(c api.PleaCase) []int {
	var out []int
	for set := range 1 << c.Facts {
		if plea.CheckTruth(c, members(set)) == api.OK {
			out = append(out, set)
		}
	}
	return out
}

// adding returns a list with one more fact, increasing.
func adding(list []int, fact int) []int { return members(setOf(list) | 1<<fact) }

// P9.9: steps of chance.
func TestProved(t *testing.T) {
	c, found := chance{at: 4}, map[bool]int{}
	for _, x := range all() {
		truths := truthsOf(x)
		for range 8 {
			facts, isClash, e := plea.CheckSteps(x, c.taken(x))
			if e != api.OK {
				continue
			}
			found[isClash]++
			if isClash && len(truths) > 0 {
				t.Fatal(x, facts, truths)
			}
			for _, set := range truths {
				if !covers(set, setOf(facts)) {
					t.Fatal(x, facts, set)
				}
			}
		}
	}
	if found[true] < 1000 || found[false] < 1000 {
		t.Error("too few of a kind:", found)
	}
}

// P9.10: either steps, or a truth.
func TestEither(t *testing.T) {
	for _, x := range all() {
		truths := truthsOf(x)
		if _, e := plea.Clash(x); (e == api.OK) != (len(truths) == 0) {
			t.Fatal(x, e, truths)
		}
		for fact := range x.Facts {
			isOut := slices.ContainsFunc(truths, func(set int) bool { return set>>fact&1 == 0 })
			if _, e := plea.Steps(x, fact); len(truths) > 0 && (e == api.OK) == isOut {
				t.Fatal(x, fact, e, truths)
			}
		}
	}
}

// P9.11: with the fact seen, too.
func TestRefused(t *testing.T) {
	found := map[bool]int{}
	for _, x := range all() {
		_, none := plea.Clash(x)
		for fact := range x.Facts {
			more := seeing(x, adding(x.Seen, fact))
			steps, e := plea.Clash(more)
			verdict, f := plea.Verdict(x, fact)
			isRefused := f == api.OK && verdict == api.PleaRefused
			if isRefused != (e == api.OK && none == api.ErrNone) {
				t.Fatal(x, fact, steps, e, verdict, f, none)
			}
			found[isRefused]++
			if _, isClash, e := plea.CheckSteps(more, steps); isRefused && (!isClash || e != api.OK) {
				t.Fatal(x, fact, steps, isClash, e)
			}
		}
	}
	if found[true] < 1000 || found[false] < 1000 {
		t.Error("too few of a kind:", found)
	}
}

// P9.12: all pairs of few truths, and some of more.
func TestBoth(t *testing.T) {
	c := chance{at: 5}
	for _, x := range all() {
		truths := truthsOf(x)
		check := func(one, other int) {
			if e := plea.CheckTruth(x, members(one&other)); e != api.OK {
				t.Fatal(x, members(one), members(other), e)
			}
		}
		if len(truths) <= 8 {
			for _, one := range truths {
				for _, other := range truths {
					check(one, other)
				}
			}
			continue
		}
		for range 60 {
			check(oneOf(&c, truths), oneOf(&c, truths))
		}
	}
}

// stay tells whether what was paid, and what was refused, stays so.
func stay(before, after []int) bool {
	for fact, verdict := range before {
		if verdict != api.PleaOpen && after[fact] != verdict {
			return false
		}
	}
	return true
}

// P9.13: one more fact seen, each of them, and one more rule, of chance.
func TestMore(t *testing.T) {
	c, changed, contradicting := chance{at: 6}, 0, 0
	for _, x := range all() {
		var more []api.PleaCase
		for fact := range x.Facts {
			if !slices.Contains(x.Seen, fact) {
				more = append(more, seeing(x, adding(x.Seen, fact)))
			}
		}
		for range 3 {
			if len(x.Rules) < api.MaxPleaRules {
				more = append(more, with(x, rule(c.from(-1, x.Facts-1), c.some(c.below(4), x.Facts)...)))
			}
		}
		many := must(t, plea.Count, x)
		before, e := verdicts(x)
		for _, far := range more {
			n := must(t, plea.Count, far)
			if n > many {
				t.Fatal(x, far, many, n)
			}
			after, f := verdicts(far)
			switch {
			case f != api.OK:
				contradicting++
			case e != api.OK || !stay(before, after):
				t.Fatal(x, far, before, e, after, f)
			case !slices.Equal(before, after):
				changed++
			}
		}
	}
	if changed < 1000 || contradicting < 1000 {
		t.Error("too few of a kind:", changed, contradicting)
	}
}

// P9.14: without an idle rule, and with what has its Then among its If.
func TestIdleRules(t *testing.T) {
	c, found := chance{at: 7}, map[bool]int{}
	for _, x := range all() {
		for at := range x.Rules {
			isIdle, e := plea.Idle(x, at)
			if e != api.OK {
				t.Fatal(x, at, e)
			}
			found[isIdle]++
			if isIdle && !slices.Equal(truthsOf(x), truthsOf(lacking(x, at))) {
				t.Fatal(x, at)
			}
		}
		if len(x.Rules) == api.MaxPleaRules {
			continue
		}
		fact := c.below(x.Facts)
		far := with(x, rule(fact, adding(c.some(c.below(3), x.Facts), fact)...))
		if isIdle, e := plea.Idle(far, len(x.Rules)); !isIdle || e != api.OK {
			t.Fatal(far, isIdle, e)
		}
	}
	if found[true] < 1000 || found[false] < 1000 {
		t.Error("too few of a kind:", found)
	}
}

// P9.15: the facts of Needed.
func TestNeededLeads(t *testing.T) {
	for _, x := range all() {
		for fact := range x.Facts {
			needed, e := plea.Needed(x, fact)
			if e != api.OK {
				continue
			}
			if _, e := plea.Steps(seeing(x, needed), fact); e != api.OK {
				t.Fatal(x, fact, needed, e)
			}
			for at := range needed {
				if _, e := plea.Steps(seeing(x, dropped(needed, at)), fact); e != api.ErrNone {
					t.Fatal(x, fact, needed, at, e)
				}
			}
		}
	}
}

// P9.15: the facts of Wrong.
func TestWrongLeaves(t *testing.T) {
	for _, x := range all() {
		wrong, e := plea.Wrong(x)
		if e != api.OK {
			continue
		}
		left := setOf(x.Seen) &^ setOf(wrong)
		if many := must(t, plea.Count, seeing(x, members(left))); many == 0 {
			t.Fatal(x, wrong)
		}
		for _, fact := range wrong {
			if many := must(t, plea.Count, seeing(x, members(left|1<<fact))); many > 0 {
				t.Fatal(x, wrong, fact, many)
			}
		}
	}
}

// renumbered returns the numbers that facts have, increasing.
func renumbered(list, numbers []int) []int {
	var out []int
	for _, fact := range list {
		out = append(out, numbers[fact])
	}
	slices.Sort(out)
	return out
}

// turned returns a case whose facts have other numbers, with the rules in an order.
func turned(x api.PleaCase, numbers, order []int) api.PleaCase {
	out := cased(x.Facts, renumbered(x.Seen, numbers))
	for _, at := range order {
		r := x.Rules[at]
		r.If = renumbered(r.If, numbers)
		if r.Then >= 0 {
			r.Then = numbers[r.Then]
		}
		out.Rules = append(out.Rules, r)
	}
	return out
}

// P9.16: other numbers, and another order.
func TestTurned(t *testing.T) {
	c := chance{at: 8}
	for _, x := range all() {
		for range 3 {
			numbers := c.order(x.Facts)
			far := turned(x, numbers, c.order(len(x.Rules)))
			if many, n := must(t, plea.Count, x), must(t, plea.Count, far); many != n {
				t.Fatal(x, far, many, n)
			}
			for fact, number := range numbers {
				verdict, e := plea.Verdict(x, fact)
				if other, f := plea.Verdict(far, number); other != verdict || f != e {
					t.Fatal(x, far, fact, number, verdict, e, other, f)
				}
			}
		}
	}
}
