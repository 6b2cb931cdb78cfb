package drum

import (
	"iter"

	"pennyfall/api"
)

// reader reads its row, play by play, and feeds a drum by what it has read.
type reader struct {
	row
	places int  // of a shortest drum that makes what was read
	taps   taps // of this drum
	short  taps // of the one before its places grew for the last time
	grew   int  // the play by which they grew, which that one did not make; -1: none
}

// readerOf returns one of a row, or the error of CheckRow.
func readerOf(plays []int) (*reader, api.Errno) {
	if e := CheckRow(plays); e != api.OK {
		return nil, e
	}
	return &reader{row: row{plays}}, api.OK
}

// begin begins to read anew.
func (r *reader) begin() {
	r.places, r.taps, r.short, r.grew = 0, tapsOf(nil), tapsOf(nil), -1
}

// read reads one more play. If the drum does not make it, one is added to it that is
// wrong at just this play too: the short one, as many places later.
func (r *reader) read(at int) {
	if parity(r.places+1, func(i int) int { return r.taps[i] * r.plays[at-i] }) == 0 {
		return
	}
	wrong := r.taps
	r.taps = wrong.plus(r.short, at-r.grew)
	if grown := at + 1 - r.places; grown > r.places {
		r.places, r.short, r.grew = grown, wrong, at
	}
}

// drum returns a shortest one that makes what was read.
func (r *reader) drum() api.DrumShift {
	return api.DrumShift{Feed: r.taps.feed(r.places), First: takenOver(r.plays[:r.places])}
}

// drums yields a shortest drum for each beginning of the row, which is read meanwhile.
func (r *reader) drums() iter.Seq[api.DrumShift] {
	return func(yield func(d api.DrumShift) bool) {
		r.begin()
		for at := range r.plays {
			if !yield(r.drum()) {
				return
			}
			r.read(at)
		}
		yield(r.drum())
	}
}

// shortest returns a shortest drum that makes the row: the first one of those for its
// beginnings that makes all of it.
func (r *reader) shortest() api.DrumShift { return first(r.drums(), r.isMadeBy) }

// proof returns plays that prove that the row, which was read, needs more than one place
// less than it has: those that the taps of the short drum take, back from the play by
// which the places grew. That play it does not make, so an odd number of them is 1; those
// before it, it makes.
func (r *reader) proof() []int {
	var out []int
	for at := r.places - 1; at <= r.grew; at++ {
		if r.short[r.grew-at] == 1 {
			out = append(out, at)
		}
	}
	return out
}

// first returns the first one that is good, or the zero value if there is none.
func first[T any](all iter.Seq[T], isGood func(x T) bool) T {
	for x := range all {
		if isGood(x) {
			return x
		}
	}
	var none T
	return none
}
