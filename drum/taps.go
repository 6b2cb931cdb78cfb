package drum

import "pennyfall/api"

// taps is 1, and behind it a Feed, and 0 behind that.
type taps [api.MaxDrumPlaces + 1]int

func tapsOf(feed []int) taps {
	out := taps{1}
	copy(out[1:], feed)
	return out
}

// feed returns that of a drum with so many places.
func (t taps) feed(places int) []int { return takenOver(t[1 : places+1]) }

// plus returns taps with others added to them, so many places later.
func (t taps) plus(other taps, later int) taps {
	for k := later; k < len(t); k++ {
		t[k] = added(t[k], other[k-later])
	}
	return t
}

// times returns the taps of two drums together, if they have room.
func (t taps) times(other taps) taps {
	var out taps
	for k := range out {
		out[k] = parity(k+1, func(i int) int { return t[i] * other[k-i] })
	}
	return out
}

// added returns 1 if just one of two numbers is 1, otherwise 0.
func added(a, b int) int { return (a + b) % 2 }

// parity returns 1 if the sum of so many numbers is odd, otherwise 0.
func parity(many int, number func(i int) int) int {
	out := 0
	for i := range many {
		out = added(out, number(i))
	}
	return out
}

// takenOver returns a list in memory of its own.
func takenOver(list []int) []int {
	out := make([]int, len(list))
	copy(out, list)
	return out
}
