package box

import (
	"iter"

	"pennyfall/api"
)

// desk is one with a hall, at which it is tried how many coppers go on each way.
type desk struct {
	api.BoxHall
	readings []reading
	gained   gains         // what each place gains by all that goes now
	room     map[way]int64 // how many more can go on each way; only those on which some can
	reached  marks         // to which places the last search came
	by       [places]way   // by which way it came to each of them
}

// deskWith returns a desk with a hall, or the error of CheckHall.
func deskWith(h api.BoxHall) (*desk, api.Errno) {
	if e := CheckHall(h); e != api.OK {
		return nil, e
	}
	return &desk{BoxHall: h, readings: readingsOf(h), room: map[way]int64{}}, api.OK
}

// lay begins anew: on each way go as few coppers as its reading allows, of which
// isRight tells whether it is right.
func (d *desk) lay(isRight func(reading int) bool) {
	clear(d.room)
	d.gained = gains{}
	for i, r := range d.readings {
		ends := r.widest
		if isRight(i) {
			ends = r.Range
		}
		d.gained.carry(r.way, ends.Lo)
		d.allow(r.way, ends.Hi-ends.Lo)
	}
}

// allow keeps how many more can go on a way.
func (d *desk) allow(w way, many int64) {
	if many == 0 {
		delete(d.room, w)
	} else {
		d.room[w] = many
	}
}

// carry lets coppers go on a way; as many more can go back.
func (d *desk) carry(w way, many int64) {
	d.gained.carry(w, many)
	d.allow(w, d.room[w]-many)
	d.allow(w.back(), d.room[w.back()]+many)
}

// isSettled tells whether no place gains anything.
func (d *desk) isSettled() bool { return d.gained == gains{} }

// settle carries what it can from places that gain too much to places that gain
// too little, by shortest trails.
func (d *desk) settle() {
search:
	for !d.isSettled() {
		for at := range d.near() {
			if d.gained[at] < 0 {
				d.follow(d.trail(at))
				continue search
			}
		}
		return
	}
}

// near yields the places to which more can go from those that gain too much, the
// nearest ones first. If it comes to its end, no way on which more can go leads
// from a place that is reached to one that is not.
func (d *desk) near() iter.Seq[int] {
	return func(yield func(at int) bool) {
		clear(d.reached[:])
		list := d.givers()
		for len(list) > 0 {
			at := list[0]
			list = list[1:]
			for w := range d.open(at) {
				if d.reached[w.to] {
					continue
				}
				d.reached[w.to] = true
				d.by[w.to] = w
				list = append(list, w.to)
				if !yield(w.to) {
					return
				}
			}
		}
	}
}

// givers returns the places that gain too much. They are reached.
func (d *desk) givers() []int {
	var out []int
	for at, many := range d.gained {
		if many > 0 {
			d.reached[at] = true
			out = append(out, at)
		}
	}
	return out
}

// open yields the ways from a place on which more can go.
func (d *desk) open(from int) iter.Seq[way] {
	return func(yield func(w way) bool) {
		for _, r := range d.readings {
			for _, w := range [...]way{r.way, r.back()} {
				if _, ok := d.room[w]; ok && w.from == from && !yield(w) {
					return
				}
			}
		}
	}
}

// trail returns the ways by which the search came to a place, the last one first.
func (d *desk) trail(at int) []way {
	var out []way
	for d.gained[at] <= 0 {
		out = append(out, d.by[at])
		at = d.by[at].from
	}
	return out
}

// follow carries as much on all ways of a trail as its ends and each way allow.
func (d *desk) follow(trail []way) {
	last, first := trail[0], trail[len(trail)-1]
	many := min(d.gained[first.from], -d.gained[last.to])
	for _, w := range trail {
		many = min(many, d.room[w])
	}
	for _, w := range trail {
		d.carry(w, many)
	}
}
