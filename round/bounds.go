package round

import (
	"iter"
	"math"

	"pennyfall/api"
)

// late is the number of an end that cannot be in time, or does not exist.
const late = -1

// The ends of a stretch.
const (
	onLeft  = 0
	onRight = 1
)

// end is one of a stretch that has so many stops on the left, and on the right.
type end struct {
	left, right, side int
}

// proof is the numbers of bounds, but those that are late.
type proof map[end]int64

func (p proof) set(at end, number int64) {
	p[at] = number
	if number == late {
		delete(p, at)
	}
}

func (p proof) number(at end) int64 {
	if number, ok := p[at]; ok {
		return number
	}
	return late
}

func (at end) isBegin() bool { return at.left == 0 && at.right == 0 }

func (at end) exists() bool {
	if at.side == onLeft {
		return at.left > 0
	}
	return at.right > 0
}

// before returns the ends of the stretch without this end.
func (at end) before() [2]end {
	if at.side == onLeft {
		at.left--
	} else {
		at.right--
	}
	return both(at.left, at.right)
}

// both returns the ends of a stretch, also one that does not exist.
func both(left, right int) [2]end {
	return [...]end{{left, right, onLeft}, {left, right, onRight}}
}

// whole returns the ends of the whole pier.
func (w *walk) whole() [2]end { return both(w.left, len(w.Stops)-w.left) }

// ends yields those of all stretches; those of shorter ones come first.
func (w *walk) ends() iter.Seq[end] {
	return func(yield func(at end) bool) {
		for left := range w.left + 1 {
			for right := range len(w.Stops) - w.left + 1 {
				for _, at := range both(left, right) {
					if !yield(at) {
						return
					}
				}
			}
		}
	}
}

// stop returns the one at an end that exists.
func (w *walk) stop(at end) api.RoundStop {
	if at.side == onLeft {
		return w.Stops[w.left-at.left]
	}
	return w.Stops[w.left+at.right-1]
}

func (w *walk) place(at end) int64 {
	if at.isBegin() {
		return w.Begin
	}
	return w.stop(at).Place
}

// sum returns the least one of an end; one that is always late if there is none.
func (w *walk) sum(p proof, at end) int64 {
	out := int64(math.MaxInt64)
	for _, from := range at.before() {
		if number, ok := p[from]; ok {
			out = min(out, number+distance(w.place(from), w.place(at)))
		}
	}
	return out
}

// right returns between which numbers that of an end is right, if those of shorter
// stretches are.
func (w *walk) right(p proof, at end) api.Range {
	if at.isBegin() {
		return api.Range{Lo: 0, Hi: 0}
	}
	if at.exists() {
		if sum := w.sum(p, at); sum <= w.stop(at).To {
			return api.Range{Lo: 0, Hi: sum}
		}
	}
	return api.Range{Lo: late, Hi: late}
}

func (w *walk) isRight(p proof) bool {
	for at := range w.ends() {
		r := w.right(p, at)
		if !within(r.Lo, r.Hi, p.number(at)) {
			return false
		}
	}
	return true
}

// greatest returns the right numbers that are as great as they can be.
func (w *walk) greatest() proof {
	out := proof{}
	for at := range w.ends() {
		out.set(at, w.right(out, at).Hi)
	}
	return out
}

// value returns that of right numbers, or ErrLate if they have none.
func (w *walk) value(p proof) (int64, api.Errno) {
	out := int64(math.MaxInt64)
	for _, at := range w.whole() {
		if number, ok := p[at]; ok {
			out = min(out, number)
		}
	}
	if out == math.MaxInt64 {
		return 0, api.ErrLate
	}
	return out, api.OK
}

// isForAll tells whether bounds have just a pair of numbers for each stretch.
func (w *walk) isForAll(bounds [][][2]int64) bool {
	if len(bounds) != w.left+1 {
		return false
	}
	for _, row := range bounds {
		if len(row) != len(w.Stops)-w.left+1 {
			return false
		}
	}
	return true
}

// taken returns the numbers of bounds.
func (w *walk) taken(bounds [][][2]int64) proof {
	out := proof{}
	for at := range w.ends() {
		out.set(at, bounds[at.left][at.right][at.side])
	}
	return out
}

// written returns bounds of these numbers.
func (w *walk) written(p proof) [][][2]int64 {
	out := make([][][2]int64, w.left+1)
	for left := range out {
		out[left] = make([][2]int64, len(w.Stops)-w.left+1)
	}
	for at := range w.ends() {
		out[at.left][at.right][at.side] = p.number(at)
	}
	return out
}
