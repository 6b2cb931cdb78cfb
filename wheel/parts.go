package wheel

import "pennyfall/api"

// states has a mark for each state.
type states [api.MaxWheelStates]bool

// closedParts returns all closed parts, by their first states.
func (b bench) closedParts() [][]int {
	leads := b.leads()
	var parts [][]int
search:
	for first := range b.Next {
		var part []int
		for state := range b.Next {
			if !leads[first][state] {
				continue
			}
			// A part that has a state before this one is found from there.
			if state < first || !leads[state][first] {
				continue search
			}
			part = append(part[:len(part):len(part)], state)
		}
		taken := make([]int, len(part))
		copy(taken, part)
		parts = append(parts[:len(parts):len(parts)], taken)
	}
	return parts
}

// leads returns to which states each state leads.
func (b bench) leads() [api.MaxWheelStates]states {
	var out [api.MaxWheelStates]states
	marks := make([]bool, len(b.Next))
	for from := range b.Next {
		clear(marks)
		b.mark(from, marks)
		copy(out[from][:], marks)
	}
	return out
}

// mark marks all states to which a state leads and that have no mark yet.
func (b bench) mark(from int, marks []bool) {
	for to := range b.Next {
		if b.goes(from, to) && !marks[to] {
			marks[to] = true
			b.mark(to, marks)
		}
	}
}

// period returns the period of a closed part. Each way back is made of ways
// back without a state twice, so that it is enough to look at these: none of
// them has more plays than the part has states.
func (b bench) period(part []int) int {
	period := int64(0)
	for _, state := range part {
		var at states
		at[state] = true
		for plays := 1; plays <= len(part); plays++ {
			at = b.play(at)
			if at[state] {
				period = divisor(period, int64(plays))
			}
		}
	}
	return int(period)
}

// play returns the states to which one play leads from any of some states.
func (b bench) play(at states) states {
	var out states
	for t := range b.places {
		if at[t.from] {
			out[t.to] = true
		}
	}
	return out
}

// landings returns, for each state, how likely it is that the machine lands in
// the part with the number.
func (b bench) landings(parts [][]int, part int) []api.Ratio {
	a, sums := newSquare(), row{}
	for state := range b.Next {
		a[state] = b.drift(state)
	}
	for number, list := range parts {
		for _, state := range list {
			a[state] = newSquare()[state]
			if number == part {
				sums[state] = 1
			}
		}
	}
	values, den := a.solve(sums)
	out := make([]api.Ratio, len(b.Next))
	for state := range out {
		out[state] = reduced(values[state], den)
	}
	return out
}
