package box

import "pennyfall/api"

// marks is which places are marked.
type marks [places]bool

// marksOf returns that the places of a list are marked.
func marksOf(list []int) marks {
	var out marks
	for _, at := range list {
		out[at] = true
	}
	return out
}

// others returns that the places that are not marked are.
func (m marks) others() marks {
	var out marks
	for at := range m {
		out[at] = !m[at]
	}
	return out
}

// surplus returns how many more coppers come to the marked places, at least, than
// can go from them.
func (d *desk) surplus(m marks) int64 {
	many := int64(0)
	for _, r := range d.readings {
		switch {
		case m[r.to] && !m[r.from]:
			many += r.Lo
		case m[r.from] && !m[r.to]:
			many -= r.Hi
		}
	}
	return many
}

// proves returns by how many stores get too much, or too little: then all other
// places, and outside with them, get too much.
func (d *desk) proves(side int, stores []int) int64 {
	m := marksOf(stores)
	if side == api.BoxUnder {
		m = m.others()
	}
	return d.surplus(m)
}

// proof returns a side, and stores that are a proof on it, if no truth was found:
// what the places that were reached gain too much cannot go from them.
func (d *desk) proof() (int, []int) {
	if d.reached[outside] {
		return api.BoxUnder, d.storesOf(d.reached.others())
	}
	return api.BoxOver, d.storesOf(d.reached)
}

// storesOf returns the marked stores.
func (d *desk) storesOf(m marks) []int {
	var out []int
	for store := range d.Gains {
		if m[store] {
			out = append(out, store)
		}
	}
	return out
}
