package drum

import (
	"iter"

	"pennyfall/api"
)

// held is what is in the places of a drum: the plays before the next one, the last
// one first, and 0 behind its places.
type held [api.MaxDrumPlaces]int

// state is that in which a drum is.
type state struct{ in held }

// machine is one with a drum that plays. A call of plays or of states turns a drum of
// its own, so that none disturbs another one.
type machine struct {
	api.DrumShift
	state
}

// machineWith returns one with a drum, or the error of CheckDrum.
func machineWith(d api.DrumShift) (machine, api.Errno) {
	if e := CheckDrum(d); e != api.OK {
		return machine{}, e
	}
	return machine{DrumShift: d}, api.OK
}

// wind puts First in the places.
func (m *machine) wind() {
	clear(m.in[:])
	for _, play := range m.First {
		m.put(play)
	}
}

// put puts a play in the first place; what was in a place goes to the next one.
func (m *machine) put(play int) {
	for k := range m.First {
		m.in[k], play = play, m.in[k]
	}
}

// weight returns what a place adds to the next play.
func (m *machine) weight(k int) int { return m.Feed[k] * m.in[k] }

// turn plays once.
func (m *machine) turn() int {
	play := parity(len(m.Feed), m.weight)
	m.put(play)
	return play
}

// plays yields all that come behind First.
func (m machine) plays() iter.Seq[int] {
	return func(yield func(play int) bool) {
		m.wind()
		for yield(m.turn()) {
		}
	}
}

// states yields those in which the drum is, the first one with First in its places.
func (m machine) states() iter.Seq[state] {
	return func(yield func(now state) bool) {
		m.wind()
		for yield(m.state) {
			m.turn()
		}
	}
}

// run returns the first plays, as many. First is the caller's: what comes behind it
// grows elsewhere.
func (m machine) run(many int) []int {
	begun := min(many, len(m.First))
	grown := m.First[:begun:begun]
	for play := range m.plays() {
		if len(grown) == many {
			break
		}
		grown = append(grown, play)
	}
	return takenOver(grown)
}

// round returns the beginning and the round. A state is as many plays as there are
// places, and tells all that come behind them: so the plays come again just when it does.
func (m machine) round() (int, int) {
	was, beginning := map[state]bool{}, 0
search:
	for now := range m.states() {
		if !was[now] {
			was[now] = true
			continue search
		}
		// The drum was in this state a round ago. Those before that do not come again.
		for before := range m.states() {
			if before.in == now.in {
				break search
			}
			delete(was, before)
			beginning++
		}
	}
	return beginning, len(was)
}

// with returns the drums of two machines together, which have so many places.
func (m machine) with(other machine, places int) api.DrumShift {
	first := m.run(places)
	for i, play := range other.run(places) {
		first[i] = added(first[i], play)
	}
	return api.DrumShift{Feed: tapsOf(m.Feed).times(tapsOf(other.Feed)).feed(places), First: first}
}
