package float

import "pennyfall/api"

// areRight tells whether heights are: it searches for an amount whose height is too
// great.
func (t *till) areRight(heights []int64) bool {
	if heights[0] > 0 {
		return false
	}
search:
	for amount, height := range heights {
		for _, value := range t.values {
			if value > int64(amount) { // so are all values behind it
				continue search
			}
			if height > heights[amount-int(value)]+1 {
				return false
			}
		}
	}
	return true
}

// heights returns those of the amounts up to one.
func (t *till) heights(most int64) []int64 {
	var room [api.MaxFloatAmount + 1]int64
	many := most + 1
	grown := room[:0:many]
	for amount, change := range t.changes(most) {
		grown = append(upTo(grown, amount), change.many())
	}
	grown = upTo(grown, many)
	out := make([]int64, len(grown))
	copy(out, grown)
	return out
}

// upTo lets heights grow up to an amount: those that they lack are of amounts that
// cannot be paid.
func upTo(heights []int64, amount int64) []int64 {
	for int64(len(heights)) < amount {
		heights = append(heights, api.MaxFloatMany)
	}
	return heights
}
