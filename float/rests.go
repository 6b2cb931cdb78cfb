package float

import "slices"

// never is the least amount of a rest with which no amount can be paid.
const never = -1

// rests returns the least amount of each rest. Such an amount has fewer coins than the
// value of the first kind: of as many, some together could be divided by this value,
// and left out. So it is less than this value multiplied by the last one.
func (t *till) rests() []int64 {
	out := slices.Repeat([]int64{never}, int(t.first()))
	for amount := range t.changes(t.first() * t.last()) {
		if rest := amount % t.first(); out[rest] == never {
			out[rest] = amount
		}
	}
	return out
}
