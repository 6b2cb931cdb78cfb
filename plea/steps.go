package plea

import "slices"

// follow takes steps, and tells whether they hold.
func (d *desk) follow(steps []int) bool {
	d.begin(d.Seen)
	for _, rule := range steps {
		if d.contradicts() || !d.known.hasAll(d.Rules[rule].If) {
			return false
		}
		d.take(rule)
	}
	return true
}

// stepsTo returns steps that lead to something to which rules led, none of which can
// be left out.
func (d *desk) stepsTo(g goal) []int {
	rule, ok := d.led[g]
	if !ok { // it was seen
		return nil
	}
	many := len(d.steps) // of which none leads to a contradiction
	if at := slices.Index(d.steps, rule); at >= 0 {
		many = at
	}
	longer := append(d.steps[:many:many], rule) // so that the desk's own steps stay as they are
	return d.needful(longer)
}

// needful returns those of some steps without which the last one does not hold, and
// the last one. No two of the steps lead to the same fact, so none of these can be
// left out.
func (d *desk) needful(steps []int) []int {
	d.forget(steps)
	out := make([]int, len(steps))
	copy(out, steps)
	return slices.DeleteFunc(out, func(rule int) bool {
		_, ok := d.led[goal{d.Rules[rule].Then}]
		return !ok
	})
}

// forget deletes by which rules some steps led to facts that the last one does not
// need.
func (d *desk) forget(steps []int) {
	clear(d.marks[:])
	last := len(steps) - 1
	d.mark(steps[last])
	for _, rule := range slices.Backward(steps[:last]) {
		then := d.Rules[rule].Then
		if d.marks[then] {
			d.mark(rule)
		} else {
			delete(d.led, goal{then})
		}
	}
}

// mark marks the facts of the If of a rule.
func (d *desk) mark(rule int) {
	for _, fact := range d.Rules[rule].If {
		d.marks[fact] = true
	}
}
