package plea

import (
	"iter"

	"pennyfall/api"
)

// contradiction is the Then of a rule that leads to one.
const contradiction = -1

// goal is that to which a rule leads: a fact, or a contradiction.
type goal struct{ then int }

// desk is one with a case, at which rules lead from facts that were seen to others.
type desk struct {
	api.PleaCase
	known facts        // that were seen, and to which rules led
	led   map[goal]int // by which rule; what was seen has none
	steps []int        // the rules that led to facts, in the order in which they did
	marks facts        // to which facts steps have to lead
}

// deskWith returns a desk with a case, or the error of CheckCase.
func deskWith(c api.PleaCase) (*desk, api.Errno) {
	if e := CheckCase(c); e != api.OK {
		return nil, e
	}
	return &desk{PleaCase: c, led: map[goal]int{}}, api.OK
}

// deskAbout returns a desk with a case of which a fact is one, or an error.
func deskAbout(c api.PleaCase, fact int) (*desk, api.Errno) {
	d, e := deskWith(c)
	if e == api.OK && !within(0, c.Facts-1, fact) {
		return nil, api.ErrArg
	}
	return d, e
}

// ready yields the rules all of whose If are known.
func (d *desk) ready(isKnown func(fact int) bool) iter.Seq[int] {
	return func(yield func(rule int) bool) {
	search:
		for rule, r := range d.Rules {
			for _, fact := range r.If {
				if !isKnown(fact) {
					continue search
				}
			}
			if !yield(rule) {
				return
			}
		}
	}
}

// begin begins anew with facts that were seen.
func (d *desk) begin(seen []int) {
	d.known, d.steps = factsOf(seen), nil
	clear(d.led)
}

// take lets a rule lead to its Then, if that is not known yet.
func (d *desk) take(rule int) {
	to := goal{d.Rules[rule].Then}
	if d.has(to) {
		return
	}
	d.led[to] = rule
	if to.then != contradiction {
		d.known[to.then] = true
		d.steps = append(d.steps, rule)
	}
}

// has tells whether a fact is known, or a rule led to a contradiction.
func (d *desk) has(g goal) bool {
	_, ok := d.led[g]
	return ok || g.then != contradiction && d.known[g.then]
}

// contradicts tells whether a rule led to a contradiction.
func (d *desk) contradicts() bool { return d.has(goal{contradiction}) }

// lead lets all rules lead as far as they can from facts that were seen. If none
// leads to a contradiction, what is known then is the least truth.
func (d *desk) lead(seen []int) {
	d.begin(seen)
	for {
		before := d.known
		for rule := range d.ready(before.has) {
			d.take(rule)
		}
		if d.known == before {
			return
		}
	}
}
