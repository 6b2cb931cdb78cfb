package pins_test

import (
	"math"
	"slices"
	"testing"

	"pennyfall/api"
	"pennyfall/pins"
)

type checkedBoard struct {
	b api.PinsBoard
	e api.Errno
}

func checkedBoards() []checkedBoard {
	least := board(longs(0, 500), 0)
	return []checkedBoard{
		{boardB(), api.OK},
		// at the limits
		{least, api.OK},
		{board(longs(500, 0), 10), api.OK},
		{even(8, 10, 500), api.OK},
		{even(8, 0, 0), api.OK},
		// too few and too many rows
		{api.PinsBoard{}, api.ErrMany},
		{api.PinsBoard{Pays: longs(1)}, api.ErrMany},
		{even(9, 5, 5), api.ErrMany},
		{even(20, 5, 5), api.ErrMany},
		// too many rows before all else
		{api.PinsBoard{Pays: longs(-1, -1)}, api.ErrMany},
		{with(even(9, 11, 5), func(b *api.PinsBoard) { b.Pays = nil }), api.ErrMany},
		// a row without its pins
		{with(least, func(b *api.PinsBoard) { b.Pins = [][]int{nil} }), api.ErrEqual},
		{with(least, func(b *api.PinsBoard) { b.Pins = [][]int{{}} }), api.ErrEqual},
		{with(least, func(b *api.PinsBoard) { b.Pins = [][]int{{1, 2}} }), api.ErrEqual},
		{api.PinsBoard{Pins: [][]int{{1}, {1}}, Pays: longs(0, 0, 0)}, api.ErrEqual},
		{api.PinsBoard{Pins: [][]int{{1}, {1, 2, 3}}, Pays: longs(0, 0, 0)}, api.ErrEqual},
		{api.PinsBoard{Pins: [][]int{{1, 2}, {1}}, Pays: longs(0, 0, 0)}, api.ErrEqual},
		{api.PinsBoard{Pins: make([][]int, 8), Pays: make([]int64, 9)}, api.ErrEqual},
		// not as many pays as slots
		{with(least, func(b *api.PinsBoard) { b.Pays = nil }), api.ErrEqual},
		{with(least, func(b *api.PinsBoard) { b.Pays = longs(1) }), api.ErrEqual},
		{with(least, func(b *api.PinsBoard) { b.Pays = longs(1, 2, 3) }), api.ErrEqual},
		{with(boardB(), func(b *api.PinsBoard) { b.Pays = longs(1, 2) }), api.ErrEqual},
		{with(boardB(), func(b *api.PinsBoard) { b.Pays = longs(1, 2, 3, 4) }), api.ErrEqual},
		// lengths before numbers, of all rows and of the pays
		{api.PinsBoard{Pins: [][]int{{11}, {1}}, Pays: longs(0, 0, 0)}, api.ErrEqual},
		{api.PinsBoard{Pins: [][]int{{11}, {1, 2}}, Pays: longs(0, 0)}, api.ErrEqual},
		{api.PinsBoard{Pins: [][]int{{1}, {1}}, Pays: longs(0, -1, 0)}, api.ErrEqual},
		// a pin
		{board(longs(0, 0), -1), api.ErrRange},
		{board(longs(0, 0), 11), api.ErrRange},
		{board(longs(0, 0), math.MinInt), api.ErrRange},
		{board(longs(0, 0), math.MaxInt), api.ErrRange},
		{board(longs(0, 0, 0), 5, 11, 5), api.ErrRange},
		{board(longs(0, 0, 0), 5, 5, -1), api.ErrRange},
		{board(longs(0, 0, 0), 11, 5, 5), api.ErrRange},
		// a pay
		{board(longs(-1, 0), 5), api.ErrRange},
		{board(longs(0, 501), 5), api.ErrRange},
		{board(longs(0, math.MaxInt64), 5), api.ErrRange},
		{board(longs(math.MinInt64, 0), 5), api.ErrRange},
		{board(longs(0, 501, 0), 5, 5, 5), api.ErrRange},
	}
}

// P2.1
func TestCheckBoard(t *testing.T) {
	for i, c := range checkedBoards() {
		if e := pins.CheckBoard(c.b); e != c.e {
			t.Error(i, c.b, e)
		}
	}
}

// errorsOf returns the errors of all functions but CheckBoard, with arguments
// that are all wrong but for the board.
func errorsOf(t *testing.T, b api.PinsBoard, level int, r api.PinsReadings) (ofLevel, ofReadings []api.Errno) {
	t.Helper()
	ways, e1 := pins.Ways(b, level)
	pay, e2 := pins.Pay(b, level)
	back, e3 := pins.Back(b, level, -1)
	falls, e4 := pins.Falls(b, level, ints(7, 7, 7))
	path, e5 := pins.Path(b, level)
	list, e6 := pins.Levels(b, r)
	refuted, e7 := pins.Refuted(b, r)
	low, high, e8 := pins.Span(b, r)
	broken, e9 := pins.Broken(b, r, by(-1, 0))
	if len(ways)+len(back)+len(path)+len(list)+len(refuted)+int(falls)+broken != 0 ||
		pay != (api.Ratio{}) || low != pay || high != pay {
		t.Error("a result with an error", b, level, r)
	}
	ofLevel = []api.Errno{e1, e2, e3, e4, e5}
	ofReadings = []api.Errno{e6, e7, e8, e9, pins.CheckReadings(b, r),
		pins.CheckRefuted(b, r, ints(-1)), pins.CheckBroken(b, r, by(-1, 0), 9)}
	return ofLevel, ofReadings
}

// The error of CheckBoard comes before all others; R2: nothing comes with it.
func TestBoardFirst(t *testing.T) {
	bad := api.PinsReadings{Plumbs: []api.Range{{Lo: 2, Hi: 1}}, Slots: make([]int, 20)}
	for _, c := range checkedBoards() {
		if c.e == api.OK {
			continue
		}
		ofLevel, ofReadings := errorsOf(t, c.b, 9, bad)
		for i, e := range append(ofLevel, ofReadings...) {
			if e != c.e {
				t.Error(i, c.b, e)
			}
		}
	}
}

// A level that is none comes behind the board, and before a slot and a path.
func TestLevelNext(t *testing.T) {
	for _, level := range ints(-6, 6, 7, -100, math.MinInt, math.MaxInt) {
		ofLevel, _ := errorsOf(t, boardB(), level, api.PinsReadings{Slots: ints(9)})
		for i, e := range ofLevel {
			if e != api.ErrArg {
				t.Error(i, level, e)
			}
		}
		if e := pins.CheckBroken(boardB(), api.PinsReadings{}, by(1, 1), level); e != api.ErrArg {
			t.Error(level, e)
		}
	}
}

type checkedReadings struct {
	r api.PinsReadings
	e api.Errno
}

// readingsOfB returns readings of the board B.
func readingsOfB() []checkedReadings {
	plumbs := func(ends ...int64) api.PinsReadings {
		var r api.PinsReadings
		for i := 0; i < len(ends); i += 2 {
			r = withPlumb(r, ends[i], ends[i+1])
		}
		return r
	}
	slots := func(list ...int) api.PinsReadings { return api.PinsReadings{Slots: list} }
	many := func(plumbs, slots int) api.PinsReadings {
		return api.PinsReadings{Plumbs: make([]api.Range, plumbs), Slots: make([]int, slots)}
	}
	return []checkedReadings{
		{readingsR(), api.OK}, {readingsS(), api.OK},
		{api.PinsReadings{}, api.OK},
		{plumbs(-5, 5), api.OK}, {plumbs(5, 5, -5, -5), api.OK},
		{slots(0, 1, 2), api.OK},
		// at most twelve of both together
		{many(12, 0), api.OK}, {many(0, 12), api.OK}, {many(5, 7), api.OK},
		{many(13, 0), api.ErrMany}, {many(0, 13), api.ErrMany}, {many(6, 7), api.ErrMany}, {many(12, 1), api.ErrMany},
		// too many come before one that is wrong
		{withPlumb(many(6, 7), 2, 1), api.ErrMany}, {withSlot(many(6, 7), 9), api.ErrMany},
		// plumbs
		{plumbs(-6, 5), api.ErrRange}, {plumbs(-5, 6), api.ErrRange}, {plumbs(1, 0), api.ErrRange},
		{plumbs(5, -5), api.ErrRange}, {plumbs(0, 0, 0, 6), api.ErrRange}, {plumbs(-6, -6), api.ErrRange},
		{plumbs(6, 6), api.ErrRange}, {plumbs(6, 5), api.ErrRange}, {plumbs(-5, -6), api.ErrRange},
		{plumbs(math.MinInt64, math.MaxInt64), api.ErrRange}, {plumbs(math.MaxInt64, math.MinInt64), api.ErrRange},
		// slots
		{slots(-1), api.ErrRange}, {slots(3), api.ErrRange}, {slots(0, 1, 2, 3), api.ErrRange},
		{slots(math.MinInt), api.ErrRange}, {slots(math.MaxInt), api.ErrRange},
	}
}

// P2.4
func TestCheckReadings(t *testing.T) {
	for i, c := range readingsOfB() {
		if e := pins.CheckReadings(boardB(), c.r); e != c.e {
			t.Error(i, c.r, e)
		}
	}
	for _, rows := range ints(1, 2, 8) {
		b := even(rows, 5, 1)
		if e := pins.CheckReadings(b, api.PinsReadings{Slots: ints(rows)}); e != api.OK {
			t.Error(rows, e)
		}
		if e := pins.CheckReadings(b, api.PinsReadings{Slots: ints(rows + 1)}); e != api.ErrRange {
			t.Error(rows, e)
		}
	}
}

// The error of CheckReadings comes behind that of the board, before all others.
func TestReadingsNext(t *testing.T) {
	for _, c := range readingsOfB() {
		if c.e == api.OK {
			continue
		}
		_, ofReadings := errorsOf(t, boardB(), 9, c.r)
		for i, e := range ofReadings {
			if e != c.e {
				t.Error(i, c.r, e)
			}
		}
	}
}

// P2.7: a promise comes behind the readings, before a level and all else.
func TestCheckPromise(t *testing.T) {
	const most = api.MaxPinsPromise
	bad := []api.Ratio{
		by(-1, 1), by(most+1, 1), by(1, 0), by(1, -1), by(1, most+1), by(-1, -1), {},
		by(math.MinInt64, 1), by(math.MaxInt64, 1), by(1, math.MinInt64), by(1, math.MaxInt64),
	}
	for _, r := range []api.PinsReadings{{}, readingsR(), readingsS()} {
		for _, p := range bad {
			for _, level := range ints(-6, 0, 6) {
				if e := pins.CheckBroken(boardB(), r, p, level); e != api.ErrRange {
					t.Error(p, level, e)
				}
			}
			if level, e := pins.Broken(boardB(), r, p); level != 0 || e != api.ErrRange {
				t.Error(p, level, e)
			}
		}
	}
	good := []api.Ratio{by(0, 1), by(0, most), by(most, most), by(1, 1), by(most, 1), by(1, most), by(500, 500)}
	for _, p := range good {
		if e := pins.CheckBroken(boardB(), readingsR(), p, 5); e != api.ErrRule && e != api.OK {
			t.Error(p, e)
		}
		if _, e := pins.Broken(boardB(), readingsR(), p); !slices.Contains([]api.Errno{api.OK, api.ErrNone}, e) {
			t.Error(p, e)
		}
	}
}
