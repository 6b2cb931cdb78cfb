package ledge

// rows returns how many rows there are of so many coppers. Round a wheel with
// one place more each of its places is left free by as many lists of drops, and
// a list leaves as many free as there are places more than coppers; the rows are
// those that leave the last one free.
func rows(places, coppers int) int64 {
	switch {
	case coppers == 0:
		return 1
	case coppers > places:
		return 0
	}
	round := int64(places + 1)
	many := round - int64(coppers)
	for range coppers - 1 {
		many *= round
	}
	return many
}

// leave returns how many rows of so many coppers leave as many full places.
func leave(full ledge, coppers int) int64 {
	ways := map[ledge]int64{{places: full.places}: 1}
	for range coppers {
		ways = withOneMore(ways)
		for set := range ways {
			if set.taken.besides(full.taken) != (taken{}) {
				delete(ways, set)
			}
		}
	}
	return ways[full]
}

// withOneMore returns in how many ways sets are left with one more copper.
func withOneMore(ways map[ledge]int64) map[ledge]int64 {
	out := map[ledge]int64{}
	for set, many := range ways {
		for from := range set.places {
			p := pusher{ledge: set}
			p.drop(p.along, from)
			if p.fell == 0 {
				out[p.ledge] += many
			}
		}
	}
	return out
}

// sources returns from how many places a copper slides to a free one: from
// itself, and from those that are taken just before it.
func (l ledge) sources(at int) int64 {
	many := int64(1)
	for at > 0 && l.taken[at-1] {
		at--
		many++
	}
	return many
}
