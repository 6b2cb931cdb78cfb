package wheel

import "pennyfall/api"

// balance returns the long-run pay of a machine that settles, if its states pay
// so much, and the heights of its states that prove it, all by the number
// returned behind them. Heights are found only up to a number that is added to
// all of them: the state 0 has the height 0, and the pay stands in its place.
func (b bench) balance(p pays) (row, int64) {
	a, sums := newSquare(), row{}
	for state := range b.Next {
		a[state] = b.drift(state)
		a[state][0] = b.Size
		sums[state] = b.Size * p[state]
	}
	return a.solve(sums)
}

// longRun returns the long-run pay of a machine that settles.
func (b bench) longRun() api.Ratio {
	if b.pays == (pays{}) {
		return reduced(0, 1)
	}
	values, den := b.balance(b.pays)
	return reduced(values[0], den)
}

// shares returns the share of each state: what the machine would pay if only
// this state paid, one copper.
func (b bench) shares() []api.Ratio {
	out := make([]api.Ratio, len(b.Next))
	for state := range out {
		var one pays
		one[state] = 1
		values, den := b.balance(one)
		out[state] = reduced(values[0], den)
	}
	return out
}

// first returns what so many plays pay together, from a state on.
func (b bench) first(state, plays int) api.Ratio {
	if plays == 0 {
		return reduced(0, 1)
	}
	// What the states are worth is kept whole, times den: at the limits that is
	// at most 10*MaxWheelPay*MaxWheelSize^9, below 2^53.
	worth, den := b.pays, int64(1)
	for range plays - 1 {
		den *= b.Size
		before := worth
		for from := range b.Next {
			later := b.behind(from, func(to int) int64 { return before[to] })
			worth[from] = b.Pay[from]*den + later
		}
	}
	return reduced(worth[state], den)
}
