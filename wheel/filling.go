package wheel

import (
	"iter"
	"slices"

	"pennyfall/api"
)

// fillings yields the fillings of a reading in which all places of a list that
// were not read lead to the same state. Both ends of the pay are among theirs:
// as the places of one list change, the pay is one sum of them by another one,
// and such a quotient is the least and the greatest at corners.
func fillings(m api.WheelMachine) iter.Seq[api.WheelMachine] {
	return func(yield func(api.WheelMachine) bool) {
		choices := 1
		for range m.Next {
			choices *= len(m.Next)
		}
		for choice := range choices {
			if !yield(filled(m, choice)) {
				return
			}
		}
	}
}

// filled returns a filling of a reading. The digits of the choice, in as many
// digits as there are states, say to which state each list is filled.
func filled(m api.WheelMachine, choice int) api.WheelMachine {
	out := api.WheelMachine{Size: m.Size, Pay: m.Pay}
	for _, read := range m.Next {
		list := slices.Clone(read)
		list[choice%len(m.Next)] += m.Size - total(read...)
		choice /= len(m.Next)
		out.Next = append(out.Next, list)
	}
	return out
}
