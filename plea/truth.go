package plea

import (
	"iter"
	"slices"

	"pennyfall/api"
)

// isTruth tells whether facts are one.
func (d *desk) isTruth(f facts) bool {
	for rule := range d.ready(f.has) {
		if then := d.Rules[rule].Then; then == contradiction || !f[then] {
			return false
		}
	}
	return f.hasAll(d.Seen)
}

// truths yields all of them.
func (d *desk) truths() iter.Seq[facts] {
	return func(yield func(truth facts) bool) {
		for set := range 1 << d.Facts {
			if f := factsIn(set); d.isTruth(f) && !yield(f) {
				return
			}
		}
	}
}

// verdict returns whether a fact is true in each truth, in some or in none, or
// ErrPlea if there are no truths.
func (d *desk) verdict(fact int) (int, api.Errno) {
	var isIn, isOut bool
	for truth := range d.truths() {
		if truth[fact] {
			isIn = true
		} else {
			isOut = true
		}
	}
	switch {
	case !isIn && !isOut:
		return 0, api.ErrPlea
	case !isOut:
		return api.PleaPaid, api.OK
	case !isIn:
		return api.PleaRefused, api.OK
	}
	return api.PleaOpen, api.OK
}

// isIdle tells whether all other rules, from the If of a rule, lead to its Then, or
// to a contradiction: then no truth of theirs breaks it.
func (d *desk) isIdle(rule int) bool {
	r := d.Rules[rule]
	others := slices.Delete(slices.Clone(d.Rules), rule, rule+1)
	left := desk{PleaCase: api.PleaCase{Facts: d.Facts, Rules: others}, led: map[goal]int{}}
	left.lead(r.If)
	return left.contradicts() || left.has(goal{r.Then})
}
