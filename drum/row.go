package drum

import (
	"slices"

	"pennyfall/api"
)

// row is plays that were seen.
type row struct{ plays []int }

// isMadeBy tells whether a drum that is valid makes the row.
func (r row) isMadeBy(d api.DrumShift) bool {
	m := machine{DrumShift: d}
	return slices.Equal(m.run(len(r.plays)), r.plays)
}

// missing returns how many plays the row lacks to tell its only drum, with so many
// places.
func (r row) missing(places int) int { return max(2*places-len(r.plays), 0) }

// back tells whether an odd number of the plays that are so many before some is 1.
func (r row) back(plays []int, many int) bool {
	return parity(len(plays), func(i int) int { return r.plays[plays[i]-many] }) == 1
}

// isProof tells whether plays prove that the row needs more than so many places.
func (r row) isProof(places int, plays []int) bool {
	// Without any plays, of which no odd number is 1, places may be beyond all bounds.
	if !r.back(plays, 0) {
		return false
	}
	for many := 1; many <= places; many++ {
		if r.back(plays, many) {
			return false
		}
	}
	return true
}
