package wheel

import "pennyfall/api"

// heights is how high each state is, in a proof.
type heights []int64

// of returns the height of a state.
func (h heights) of(state int) int64 {
	return h[state]
}

// proof returns a proof of the long-run pay, in the least numbers.
func (b bench) proof() api.WheelProof {
	values, den := b.balance(b.pays)
	gain := values[0]
	values[0] = 0
	g := divisor(append(values[:], gain, den)...)
	list := make([]int64, len(b.Next))
	for state := range list {
		list[state] = values[state] / g
	}
	return api.WheelProof{Den: den / g, Gain: gain / g, Heights: list}
}

// proven returns what a proof proves; 0 if it proves nothing.
func (b bench) proven(p api.WheelProof) int {
	most, least := true, true
	for state := range b.Next {
		// The limits of a proof keep both of these below 2^56.
		reached := b.Size*b.Pay[state]*p.Den + b.behind(state, heights(p.Heights).of)
		bound := b.Size * (p.Gain + p.Heights[state])
		most = most && reached <= bound
		least = least && reached >= bound
	}
	switch {
	case most && least:
		return api.WheelJust
	case most:
		return api.WheelMost
	case least:
		return api.WheelLeast
	}
	return 0
}
