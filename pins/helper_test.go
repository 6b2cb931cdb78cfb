package pins_test

import (
	"math"
	"math/big"
	"slices"
	"testing"

	"pennyfall/api"
	"pennyfall/pins"
)

func by(num, den int64) api.Ratio { return api.Ratio{Num: num, Den: den} }

func longs(list ...int64) []int64 { return list }

func ints(list ...int) []int { return list }

// board lays out the pins of all rows, which stand behind one another.
func board(pays []int64, all ...int) api.PinsBoard {
	b := api.PinsBoard{Pays: pays}
	for len(all) > 0 {
		row := len(b.Pins) + 1
		b.Pins = append(b.Pins, all[:row:row])
		all = all[row:]
	}
	return b
}

// boardB, readingsR and readingsS are those of the chapter.
func boardB() api.PinsBoard { return board(longs(2, 0, 6), 5, 3, 8) }

func readingsR() api.PinsReadings {
	return api.PinsReadings{Plumbs: []api.Range{{Lo: -1, Hi: 5}}, Slots: ints(1)}
}

func readingsS() api.PinsReadings {
	return api.PinsReadings{Plumbs: []api.Range{{Lo: -5, Hi: -5}}, Slots: ints(1)}
}

// even is a board of so many rows, each pin of which has as many tenths, and
// whose slots all pay the same.
func even(rows, tenths int, pay int64) api.PinsBoard {
	b := api.PinsBoard{Pays: slices.Repeat(longs(pay), rows+1)}
	for row := range rows {
		b.Pins = append(b.Pins, slices.Repeat(ints(tenths), row+1))
	}
	return b
}

// with returns a board that is changed in one way.
func with(b api.PinsBoard, change func(b *api.PinsBoard)) api.PinsBoard {
	change(&b)
	return b
}

// withPlumb and withSlot return the readings, and one more of them.
func withPlumb(r api.PinsReadings, lo, hi int64) api.PinsReadings {
	return api.PinsReadings{Plumbs: append(slices.Clone(r.Plumbs), api.Range{Lo: lo, Hi: hi}), Slots: r.Slots}
}

func withSlot(r api.PinsReadings, slot int) api.PinsReadings {
	return api.PinsReadings{Plumbs: r.Plumbs, Slots: append(slices.Clone(r.Slots), slot)}
}

func clonedBoard(b api.PinsBoard) api.PinsBoard {
	out := api.PinsBoard{Pays: slices.Clone(b.Pays)}
	for _, pins := range b.Pins {
		out.Pins = append(out.Pins, slices.Clone(pins))
	}
	return out
}

func clonedReadings(r api.PinsReadings) api.PinsReadings {
	return api.PinsReadings{Plumbs: slices.Clone(r.Plumbs), Slots: slices.Clone(r.Slots)}
}

// levels returns all levels, from the least one on.
func levels() []int { return ints(-5, -4, -3, -2, -1, 0, 1, 2, 3, 4, 5) }

// chance is numbers that seem to be chance, and are the same in each run.
type chance struct{ at uint64 }

func (c *chance) below(n int) int {
	c.at = c.at*6364136223846793005 + 1442695040888963407
	return int((c.at >> 33) % uint64(n))
}

// board returns a board of some kind: half of all have only pins that send the
// ball to one side at many levels.
func (c *chance) board() api.PinsBoard {
	b := api.PinsBoard{}
	steep := c.below(2) == 0
	rows := 1 + c.below(api.MaxPinsRows)
	for row := range rows {
		var pins []int
		for range row + 1 {
			tenths := c.below(11)
			if steep {
				tenths = 10 * c.below(2)
			}
			pins = append(pins, tenths)
		}
		b.Pins = append(b.Pins, pins)
	}
	for range rows + 1 {
		b.Pays = append(b.Pays, int64(c.below(api.MaxPinsPay+1)))
	}
	return b
}

func (c *chance) readings(b api.PinsBoard) api.PinsReadings {
	var r api.PinsReadings
	for range c.below(4) {
		lo := c.below(11) - 5
		r = withPlumb(r, int64(lo), int64(lo+c.below(6-lo)))
	}
	for range c.below(4) {
		r = withSlot(r, c.below(len(b.Pays)))
	}
	return r
}

// boards returns many boards, of all kinds: the chapter's one, the least, the
// greatest, and such as always send the ball to one side.
func boards() []api.PinsBoard {
	out := []api.PinsBoard{
		boardB(), board(longs(0, 0), 0), board(longs(500, 1), 10), board(longs(0, 500), 5),
		even(8, 5, 500), even(8, 0, 0), even(8, 10, 1), even(7, 1, 3), even(3, 9, 4),
	}
	c := chance{at: 1}
	for range 150 {
		out = append(out, c.board())
	}
	return out
}

// read is a board with readings of it.
type read struct {
	b api.PinsBoard
	r api.PinsReadings
}

// reads returns boards with readings: such as agree with some levels, and such
// as agree with none.
func reads() []read {
	out := []read{{boardB(), readingsR()}, {boardB(), readingsS()}, {boardB(), api.PinsReadings{}}}
	c := chance{at: 2}
	for _, b := range boards() {
		for range 4 {
			out = append(out, read{b, c.readings(b)})
		}
	}
	return out
}

// tenths returns, by the definition, how many tenths a pin has at a level.
func tenths(b api.PinsBoard, level, row, index int) int {
	at := b.Pins[row][index] + level
	if at < 0 {
		return 0
	}
	if at > 10 {
		return 10
	}
	return at
}

// eachFall calls do with the path of each fall, one way of ten after the other.
func eachFall(b api.PinsBoard, level int, do func(path []int)) {
	var fall func(index int, path []int)
	fall = func(index int, path []int) {
		row := len(path)
		if row == len(b.Pins) {
			do(path)
			return
		}
		for way := range 10 {
			side := 0
			if way < tenths(b, level, row, index) {
				side = 1
			}
			fall(index+side, append(slices.Clone(path), side))
		}
	}
	fall(0, nil)
}

// eachPath calls do with each path that begins at a pin, in lexicographic order,
// and with how many falls it has from there.
func eachPath(b api.PinsBoard, level, row, index int, do func(path []int, falls int64)) {
	rows := len(b.Pins) - row
	for set := range 1 << rows {
		path, falls, at := []int(nil), int64(1), index
		for i := range rows {
			side := set >> (rows - 1 - i) & 1
			right := tenths(b, level, row+i, at)
			falls *= int64([]int{10 - right, right}[side])
			at += side
			path = append(path, side)
		}
		do(path, falls)
	}
}

// waysOf adds up all paths that begin at a pin, by their slots.
func waysOf(b api.PinsBoard, level, row, index int) []int64 {
	out := make([]int64, len(b.Pays))
	eachPath(b, level, row, index, func(path []int, falls int64) {
		slot := index
		for _, side := range path {
			slot += side
		}
		out[slot] += falls
	})
	return out
}

func power(rows int) int64 { return int64(math.Pow10(rows)) }

func add(list []int64) int64 {
	sum := int64(0)
	for _, n := range list {
		sum += n
	}
	return sum
}

// payOf is the pay, by the definition.
func payOf(b api.PinsBoard, level int) *big.Rat {
	sum := int64(0)
	for slot, ways := range waysOf(b, level, 0, 0) {
		sum += ways * b.Pays[slot]
	}
	return big.NewRat(sum, power(len(b.Pins)))
}

func rat(r api.Ratio) *big.Rat { return big.NewRat(r.Num, r.Den) }

func ratio(x *big.Rat) api.Ratio { return by(x.Num().Int64(), x.Denom().Int64()) }

// agreesWith tells, by the definition, whether a level agrees with a reading.
func agreesWith(c read, level, reading int) bool {
	if reading < len(c.r.Plumbs) {
		p := c.r.Plumbs[reading]
		return p.Lo <= int64(level) && int64(level) <= p.Hi
	}
	slot := c.r.Slots[reading-len(c.r.Plumbs)]
	return waysOf(c.b, level, 0, 0)[slot] > 0
}

func count(r api.PinsReadings) int { return len(r.Plumbs) + len(r.Slots) }

// firstAgainst returns the first reading with which a level does not agree, or -1.
func firstAgainst(c read, level int) int {
	for reading := range count(c.r) {
		if !agreesWith(c, level, reading) {
			return reading
		}
	}
	return -1
}

func agreedLevels(c read) []int {
	return slices.DeleteFunc(levels(), func(level int) bool { return firstAgainst(c, level) >= 0 })
}

func mustWays(t *testing.T, b api.PinsBoard, level int) []int64 {
	t.Helper()
	list, e := pins.Ways(b, level)
	if e != api.OK {
		t.Fatal("Ways", b, level, e)
	}
	return list
}

// mustPay returns the pay, which has to be in least terms.
func mustPay(t *testing.T, b api.PinsBoard, level int) *big.Rat {
	t.Helper()
	r, e := pins.Pay(b, level)
	if e != api.OK || r.Den <= 0 || ratio(rat(r)) != r {
		t.Fatal("Pay", b, level, r, e)
	}
	return rat(r)
}

func mustBack(t *testing.T, b api.PinsBoard, level, slot int) [][]int64 {
	t.Helper()
	list, e := pins.Back(b, level, slot)
	if e != api.OK {
		t.Fatal("Back", b, level, slot, e)
	}
	return list
}

func mustFalls(t *testing.T, b api.PinsBoard, level int, path []int) int64 {
	t.Helper()
	n, e := pins.Falls(b, level, path)
	if e != api.OK {
		t.Fatal("Falls", b, level, path, e)
	}
	return n
}
