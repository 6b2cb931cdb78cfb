package box

import "pennyfall/api"

// agrees tells whether a truth agrees with all readings.
func (d *desk) agrees(truth []int64) bool {
	var gained gains
	for i, many := range truth {
		gained.carry(d.readings[i].way, many)
	}
	numbers := append(truth[:len(truth):len(truth)], gained[:len(d.Gains)]...)
	for i, r := range d.readings {
		if !within(r.Lo, r.Hi, numbers[i]) {
			return false
		}
	}
	return true
}

// hasTruth tells whether some truth agrees with all readings, and finds one if so.
func (d *desk) hasTruth() bool { return d.canBeWrong(nil) }

// truth returns the truth that was found.
func (d *desk) truth() []int64 {
	out := make([]int64, len(d.Moves))
	for i := range out {
		r := d.readings[i]
		out[i] = r.Lo + d.room[r.back()]
	}
	return out
}

// span returns between which ends the number of a reading is in all truths that
// agree, or ErrBox if there are none.
func (d *desk) span(number int) (api.Range, api.Errno) {
	if !d.hasTruth() {
		return api.Range{}, api.ErrBox
	}
	r := d.readings[number]
	return api.Range{Lo: r.Lo + d.missing(r.back()), Hi: r.Hi - d.missing(r.way)}, api.OK
}

// missing returns how many fewer coppers go on a way than it allows, at least, in
// all truths that agree. It lets all go that the way allows, and then no place but
// its end gains what cannot be carried back to its beginning by other ways.
func (d *desk) missing(w way) int64 {
	d.hasTruth()
	d.carry(w, d.room[w])
	delete(d.room, w.back())
	d.settle()
	return d.gained[w.to]
}
