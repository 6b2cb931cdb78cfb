package box

import "pennyfall/api"

// outside is the place to which each store sends what it gains, so that no place
// gains anything in the end; the places before it are the stores.
const (
	outside = api.MaxBoxStores
	places  = outside + 1
)

// way leads from a place to another one: as the coppers of a reading go, or back.
type way struct {
	from, to, reading int
}

func (w way) back() way { return way{w.to, w.from, w.reading} }

// gains is what each place gains.
type gains [places]int64

// carry lets coppers go on a way.
func (g *gains) carry(w way, many int64) {
	g[w.from] -= many
	g[w.to] += many
}

// reading is between which ends coppers go on its way: those that were read, and
// the widest ones, which hold if it is wrong.
type reading struct {
	way
	api.Range
	widest api.Range
}

// readingsOf returns all readings, by their numbers.
func readingsOf(h api.BoxHall) []reading {
	var out []reading
	for i, m := range h.Moves {
		out = append(out, reading{
			way:    way{m.From, m.To, i},
			Range:  m.Count,
			widest: api.Range{Lo: 0, Hi: api.MaxBoxCount},
		})
	}
	for store, gain := range h.Gains {
		out = append(out, reading{
			way:    way{store, outside, len(h.Moves) + store},
			Range:  gain,
			widest: api.Range{Lo: -api.MaxBoxGain, Hi: api.MaxBoxGain},
		})
	}
	return out
}
