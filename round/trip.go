package round

import (
	"iter"
	"slices"

	"pennyfall/api"
)

// steps is the step of each stop, by its index. Those of no round are all 0: no
// stop lies at Begin.
type steps [api.MaxRoundStops]int64

// trip is a round, and its steps.
type trip struct {
	round []int
	steps steps
}

func (t trip) isNone() bool { return t.steps == steps{} }

func (t trip) length() int64 { return slices.Max(t.steps[:]) }

// trip returns that of a round.
func (w *walk) trip(round []int) trip {
	out := trip{round: round}
	at, step := w.Begin, int64(0)
	for _, stop := range round {
		place := w.Stops[stop].Place
		step += distance(at, place)
		at = place
		out.steps[stop] = step
	}
	return out
}

// trips yields those of all rounds, in lexicographic order.
func (w *walk) trips() iter.Seq[trip] {
	return func(yield func(t trip) bool) {
		for round := range w.rounds() {
			if !yield(w.trip(round)) {
				return
			}
		}
	}
}

// isInTime tells whether a trip comes in time to each stop that has a To.
func (w *walk) isInTime(t trip) bool {
	for i, s := range w.Stops {
		if w.timed[i] && t.steps[i] > s.To {
			return false
		}
	}
	return true
}

// tripsInTime yields those that are.
func (w *walk) tripsInTime() iter.Seq[trip] { return only(w.trips(), w.isInTime) }

// only yields the elements that are good.
func only[T any](all iter.Seq[T], isGood func(x T) bool) iter.Seq[T] {
	return func(yield func(x T) bool) {
		for x := range all {
			if isGood(x) && !yield(x) {
				return
			}
		}
	}
}

// least returns the first element of which a number is the least, or the zero value
// if there is none.
func least[T any](all iter.Seq[T], number func(x T) int64) T {
	var out T
	none := true
	for x := range all {
		if none || number(x) < number(out) {
			out, none = x, false
		}
	}
	return out
}

// shortest returns the first shortest trip that is in time, or ErrLate if none is.
func shortest(p api.RoundPier) (trip, api.Errno) {
	w, e := walkAlong(p)
	if e != api.OK {
		return trip{}, e
	}
	t := least(w.tripsInTime(), trip.length)
	if t.isNone() {
		return trip{}, api.ErrLate
	}
	return t, api.OK
}

// span returns between which steps a stop is levelled, or ErrLate if no trip is in
// time.
func (w *walk) span(stop int) (api.Range, api.Errno) {
	soonest := least(w.tripsInTime(), func(t trip) int64 { return t.steps[stop] })
	latest := least(w.tripsInTime(), func(t trip) int64 { return -t.steps[stop] })
	if soonest.isNone() {
		return api.Range{}, api.ErrLate
	}
	return api.Range{Lo: soonest.steps[stop], Hi: latest.steps[stop]}, api.OK
}

// lateness returns by how much a trip is late, at most.
func (w *walk) lateness(t trip) int64 {
	out := t.steps[0] - w.Stops[0].To
	for i, s := range w.Stops {
		out = max(out, t.steps[i]-s.To)
	}
	return out
}

// delay returns by how much each trip is late, at least.
func (w *walk) delay() int64 { return w.lateness(least(w.trips(), w.lateness)) }
