package pins

import (
	"iter"
	"slices"

	"pennyfall/api"
)

// none stands where there is no reading with which a level does not agree.
const none = -1

// promised is a promise of what is paid.
type promised api.Ratio

// isBroken tells whether less is paid than was promised. The limits of boards
// and of promises keep both products below 2^56.
func (p promised) isBroken(f frame) bool {
	return f.paid()*p.Den < p.Num*f.falls()
}

// many returns how many readings there are.
func many(r api.PinsReadings) int {
	return len(r.Plumbs) + len(r.Slots)
}

// agrees tells whether the level agrees with the reading that has the index.
func (f frame) agrees(r api.PinsReadings, reading int) bool {
	if reading < len(r.Plumbs) {
		plumb := r.Plumbs[reading]
		return within(plumb.Lo, plumb.Hi, int64(f.level))
	}
	return f.reaches(r.Slots[reading-len(r.Plumbs)])
}

// against returns for each level, from the least one on, the first reading with
// which it does not agree, or none.
func against(b api.PinsBoard, r api.PinsReadings) []int {
	var out []int
search:
	for i := range levels {
		f := levelFrame(b, i)
		for reading := range many(r) {
			if !f.agrees(r, reading) {
				out = append(out, reading)
				continue search
			}
		}
		out = append(out, none)
	}
	return out
}

// agreeing yields the board at each level that agrees with all readings, from
// the least one on.
func agreeing(b api.PinsBoard, r api.PinsReadings) iter.Seq[frame] {
	return func(yield func(frame) bool) {
		for i, reading := range against(b, r) {
			if reading == none && !yield(levelFrame(b, i)) {
				return
			}
		}
	}
}

// agreed returns the board at all levels that agree with all readings, or the
// error of CheckReadings, or ErrPin if there is none.
func agreed(b api.PinsBoard, r api.PinsReadings) ([]frame, api.Errno) {
	if e := CheckReadings(b, r); e != api.OK {
		return nil, e
	}
	frames := slices.Collect(agreeing(b, r))
	if len(frames) == 0 {
		return nil, api.ErrPin
	}
	return frames, api.OK
}
