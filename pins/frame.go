package pins

import "pennyfall/api"

const (
	ten    = 10                     // the ways of a pin, and the most tenths that it has
	levels = 2*api.MaxPinsLevel + 1 // how many levels there are
)

// The sides to which a pin sends a ball, as a path names them: behind a pin the
// ball comes to the pin of the next row whose index is greater by the side.
const (
	left  = 0
	right = 1
	sides = 2
)

// frame is a valid board at a level.
type frame struct {
	api.PinsBoard
	level int
}

// framed returns a board at a level, or the error of CheckBoard or of the level.
func framed(b api.PinsBoard, level int) (frame, api.Errno) {
	if e := CheckBoard(b); e != api.OK {
		return frame{}, e
	}
	if !isLevel(level) {
		return frame{}, api.ErrArg
	}
	return frame{b, level}, api.OK
}

// levelFrame returns a valid board at the level that has the index, the least
// level being the first one.
func levelFrame(b api.PinsBoard, index int) frame {
	return frame{b, index - api.MaxPinsLevel}
}

// turns returns how many ways a pin has to a side.
func (f frame) turns(p pin, side int) int64 {
	tenths := min(max(f.Pins[p.row][p.index]+f.level, 0), ten)
	if side == left {
		return int64(ten - tenths)
	}
	return int64(tenths)
}

// falls returns how many falls there are.
func (f frame) falls() int64 {
	out := int64(1)
	for range f.Pins {
		out *= ten
	}
	return out
}

// paid returns what all falls pay together: at most MaxPinsPay for each of them.
func (f frame) paid() int64 {
	sum := int64(0)
	ways := f.ways()
	for slot, pay := range f.Pays {
		sum += ways[slot] * pay
	}
	return sum
}

// pay returns what a fall pays on the average.
func (f frame) pay() api.Ratio {
	return reduced(f.paid(), f.falls())
}
