package wheel

import "pennyfall/api"

// pays is what each state pays; states that a machine has not pay nothing.
type pays [api.MaxWheelStates]int64

// turn leads from one state to another one, or to itself.
type turn struct {
	from, to int
}

// bench is a valid machine, laid out to be looked at: only turns that at least
// one place makes have places.
type bench struct {
	api.WheelMachine
	pays   pays
	places map[turn]int64
}

// newBench lays out a valid machine.
func newBench(m api.WheelMachine) bench {
	b := bench{WheelMachine: m, places: map[turn]int64{}}
	copy(b.pays[:], m.Pay)
	for from, list := range m.Next {
		for to, many := range list {
			b.places[turn{from, to}] = many
		}
	}
	for t, many := range b.places {
		if many == 0 {
			delete(b.places, t)
		}
	}
	return b
}

// laid lays out a machine, or returns the error of CheckMachine.
func laid(m api.WheelMachine) (bench, api.Errno) {
	if e := CheckMachine(m); e != api.OK {
		return bench{}, e
	}
	return newBench(m), api.OK
}

// laidSettled lays out a machine that settles.
func laidSettled(m api.WheelMachine) (bench, api.Errno) {
	b, e := laid(m)
	if e != api.OK {
		return bench{}, e
	}
	if len(b.closedParts()) > 1 {
		return bench{}, api.ErrWheel
	}
	return b, api.OK
}

// goes tells whether one play may lead from a state to another one.
func (b bench) goes(from, to int) bool {
	_, ok := b.places[turn{from, to}]
	return ok
}

// behind returns what the states behind one play are worth together, each as
// often as places lead to it.
func (b bench) behind(from int, worth func(state int) int64) int64 {
	sum := int64(0)
	for to := range b.Next {
		sum += b.places[turn{from, to}] * worth(to)
	}
	return sum
}

// drift returns by how many places a state is left, at itself, and as numbers
// that are not above 0 how many of them lead to each other one: together 0.
func (b bench) drift(from int) row {
	var out row
	for to := range b.Next {
		out[to] = -b.places[turn{from, to}]
	}
	out[from] += b.Size
	return out
}
