package box_test

import (
	"math/bits"
	"slices"
	"testing"

	"pennyfall/api"
	"pennyfall/box"
)

func ints(list ...int) []int { return list }

func numbers(list ...int64) []int64 { return list }

func ranged(lo, hi int64) api.Range { return api.Range{Lo: lo, Hi: hi} }

func move(from, to int, lo, hi int64) api.BoxMove {
	return api.BoxMove{From: from, To: to, Count: ranged(lo, hi)}
}

func hall(gains []api.Range, moves ...api.BoxMove) api.BoxHall {
	return api.BoxHall{Moves: moves, Gains: gains}
}

func gains(list ...api.Range) []api.Range { return list }

// hallH and hallG are those of the chapter.
func hallH() api.BoxHall {
	return hall(gains(ranged(-7, -6), ranged(3, 4), ranged(0, 3)), move(0, 1, 5, 7), move(1, 2, 2, 3))
}

func hallG() api.BoxHall {
	h := hallH()
	h.Gains[1] = ranged(6, 6)
	return h
}

func cloned(h api.BoxHall) api.BoxHall {
	return api.BoxHall{Moves: slices.Clone(h.Moves), Gains: slices.Clone(h.Gains)}
}

func same(h, i api.BoxHall) bool {
	return slices.Equal(h.Moves, i.Moves) && slices.Equal(h.Gains, i.Gains)
}

// readings returns how many there are.
func readings(h api.BoxHall) int { return len(h.Moves) + len(h.Gains) }

// endsOf returns the range of a reading, to be looked at or changed.
func endsOf(h api.BoxHall, reading int) *api.Range {
	if reading < len(h.Moves) {
		return &h.Moves[reading].Count
	}
	return &h.Gains[reading-len(h.Moves)]
}

// widest returns the widest range that a reading can have.
func widest(h api.BoxHall, reading int) api.Range {
	if reading < len(h.Moves) {
		return ranged(0, 100)
	}
	return ranged(-700, 700)
}

// with returns a hall with another range of a reading.
func with(h api.BoxHall, reading int, r api.Range) api.BoxHall {
	out := cloned(h)
	*endsOf(out, reading) = r
	return out
}

// without returns a hall in which some readings say nothing.
func without(h api.BoxHall, wrong []int) api.BoxHall {
	out := cloned(h)
	for _, r := range wrong {
		*endsOf(out, r) = widest(h, r)
	}
	return out
}

func in(r api.Range, n int64) bool { return r.Lo <= n && n <= r.Hi }

func isIn(r, s api.Range) bool { return s.Lo <= r.Lo && r.Hi <= s.Hi }

// gainedOf returns what the stores gain by a truth.
func gainedOf(h api.BoxHall, truth []int64) []int64 {
	out := make([]int64, len(h.Gains))
	for store := range out {
		for i, m := range h.Moves {
			if m.To == store {
				out[store] += truth[i]
			}
			if m.From == store {
				out[store] -= truth[i]
			}
		}
	}
	return out
}

// numbersOf returns the numbers of all readings by a truth.
func numbersOf(h api.BoxHall, truth []int64) []int64 {
	return slices.Concat(truth, gainedOf(h, truth))
}

// wrongOf returns the readings with which a truth does not agree.
func wrongOf(h api.BoxHall, truth []int64) []int {
	var out []int
	for i, n := range numbersOf(h, truth) {
		if !in(*endsOf(h, i), n) {
			out = append(out, i)
		}
	}
	return out
}

// eachTruth calls do with all truths that agree with the moves of a hall.
func eachTruth(h api.BoxHall, do func(truth []int64)) {
	truth := make([]int64, len(h.Moves))
	var more func(i int)
	more = func(i int) {
		if i == len(truth) {
			do(truth)
			return
		}
		for n := h.Moves[i].Count.Lo; n <= h.Moves[i].Count.Hi; n++ {
			truth[i] = n
			more(i + 1)
		}
	}
	more(0)
}

// truthsOf returns all truths that agree with a hall.
func truthsOf(h api.BoxHall) [][]int64 {
	var out [][]int64
	eachTruth(h, func(truth []int64) {
		if len(wrongOf(h, truth)) == 0 {
			out = append(out, slices.Clone(truth))
		}
	})
	return out
}

// members returns the elements whose bits a number has.
func members(set int) []int {
	var out []int
	for at := 0; set>>at > 0; at++ {
		if set>>at&1 == 1 {
			out = append(out, at)
		}
	}
	return out
}

// provedBy returns by how many stores get too much or too little, by the definition.
func provedBy(h api.BoxHall, side int, stores []int) int64 {
	least, most, low, high := int64(0), int64(0), int64(0), int64(0)
	for _, m := range h.Moves {
		from, to := slices.Contains(stores, m.From), slices.Contains(stores, m.To)
		if to && !from {
			least += m.Count.Lo
			most += m.Count.Hi
		}
		if from && !to {
			least -= m.Count.Hi
			most -= m.Count.Lo
		}
	}
	for _, store := range stores {
		low += h.Gains[store].Lo
		high += h.Gains[store].Hi
	}
	if side == 1 {
		return least - high
	}
	return low - most
}

// isProved tells whether some stores are a proof.
func isProved(h api.BoxHall) bool {
	for set := 1; set < 1<<len(h.Gains); set++ {
		stores := members(set)
		if provedBy(h, 1, stores) > 0 || provedBy(h, 2, stores) > 0 {
			return true
		}
	}
	return false
}

// fewestOf returns the fewest readings that can be wrong together, each list of
// them, in lexicographic order; by proofs.
func fewestOf(h api.BoxHall) [][]int {
	var out [][]int
	for many := 0; len(out) == 0; many++ {
		for set := range 1 << readings(h) {
			if bits.OnesCount(uint(set)) == many && !isProved(without(h, members(set))) {
				out = append(out, members(set))
			}
		}
	}
	slices.SortFunc(out, slices.Compare[[]int])
	return out
}

// kindOf returns the kind of a reading, if these are the fewest.
func kindOf(lists [][]int, reading int) int {
	many := 0
	for _, list := range lists {
		if slices.Contains(list, reading) {
			many++
		}
	}
	switch many {
	case 0:
		return 0
	case len(lists):
		return 2
	}
	return 1
}

// chance is numbers that seem to be chance, and are the same in each run.
type chance struct{ at uint64 }

func (c *chance) below(n int) int {
	c.at = c.at*6364136223846793005 + 1442695040888963407
	return int((c.at >> 33) % uint64(n))
}

func (c *chance) from(least, most int64) int64 {
	return least + int64(c.below(int(most-least)+1))
}

// around returns a range around a number, within widest ends.
func (c *chance) around(n int64, wide int, ends api.Range) api.Range {
	return ranged(max(n-int64(c.below(wide+1)), ends.Lo), min(n+int64(c.below(wide+1)), ends.Hi))
}

// any returns a range within widest ends.
func (c *chance) any(ends api.Range) api.Range {
	a, b := c.from(ends.Lo, ends.Hi), c.from(ends.Lo, ends.Hi)
	return ranged(min(a, b), max(a, b))
}

// moves returns some, without counts, of a hall of so many stores.
func (c *chance) moves(stores, many int) []api.BoxMove {
	var out []api.BoxMove
	for stores > 1 && len(out) < many {
		if from, to := c.below(stores), c.below(stores); from != to {
			out = append(out, move(from, to, 0, 0))
		}
	}
	return out
}

// truth returns numbers of so many moves.
func (c *chance) truth(moves int, most int64) []int64 {
	out := make([]int64, moves)
	for i := range out {
		out[i] = c.from(0, most)
	}
	return out
}

// hall returns one with numbers of up to most, whose ranges are about so wide: a
// truth agrees with all readings, but for about so many of them.
func (c *chance) hall(most int64, wide, wrong int) api.BoxHall {
	stores := 1 + c.below(api.MaxBoxStores)
	h := hall(make([]api.Range, stores), c.moves(stores, c.below(api.MaxBoxMoves+1))...)
	truth := c.truth(len(h.Moves), most)
	for i, n := range numbersOf(h, truth) {
		*endsOf(h, i) = c.around(n, wide, widest(h, i))
	}
	for range wrong {
		i := c.below(readings(h))
		*endsOf(h, i) = c.around(endsOf(h, i).Lo+c.from(-4, 4), wide, widest(h, i))
		if r := endsOf(h, i); r.Lo > r.Hi {
			*r = widest(h, i)
		}
	}
	return h
}

// small returns halls whose truths are few.
func small() []api.BoxHall {
	c := chance{at: 1}
	out := []api.BoxHall{hallH(), hallG()}
	for i := range 1500 {
		out = append(out, c.hall(4, 1+i%2, i%4))
	}
	return out
}

// great returns halls with numbers up to the limits.
func great() []api.BoxHall {
	c := chance{at: 2}
	var out []api.BoxHall
	for i := range 1500 {
		switch h := c.hall(100, ints(0, 3, 20, 60)[i%4], i/4%4); {
		case i%5 > 0:
			out = append(out, h)
		default: // any ranges at all
			for r := range readings(h) {
				ends := widest(h, r)
				*endsOf(h, r) = c.any(ranged(ends.Lo/int64(1+c.below(9)), ends.Hi/int64(1+c.below(3))))
			}
			out = append(out, h)
		}
	}
	return out
}

func all() []api.BoxHall { return append(small(), great()...) }

// good returns those halls with which some truth agrees.
func good(t *testing.T, halls []api.BoxHall) []api.BoxHall {
	t.Helper()
	out := slices.DeleteFunc(halls, isProved)
	if len(out) < 500 {
		t.Fatal("too few with which a truth agrees:", len(out))
	}
	return out
}

func mustTruth(t *testing.T, h api.BoxHall) []int64 {
	t.Helper()
	truth, e := box.Truth(h)
	if e != api.OK || len(truth) != len(h.Moves) || len(wrongOf(h, truth)) > 0 {
		t.Fatal("Truth", h, truth, e)
	}
	return truth
}

// mustRefute is for a hall with which no truth agrees.
func mustRefute(t *testing.T, h api.BoxHall) {
	t.Helper()
	side, stores, e := box.Part(h)
	if e != api.OK || side < 1 || side > 2 || !isChoice(len(h.Gains), stores) || len(stores) == 0 {
		t.Fatal("Part", h, side, stores, e)
	}
	if provedBy(h, side, stores) <= 0 {
		t.Fatal("no proof", h, side, stores)
	}
}

// isChoice tells whether a list is strictly increasing, of elements of another one.
func isChoice(many int, list []int) bool {
	for i, x := range list {
		if x < 0 || x >= many || i > 0 && list[i-1] >= x {
			return false
		}
	}
	return true
}

// mustSpan returns the ends of a number, of a move or of what a store gains.
func mustSpan(t *testing.T, h api.BoxHall, reading int) api.Range {
	t.Helper()
	r, e := spanOf(h, reading)
	if e != api.OK {
		t.Fatal("Span or Gain", h, reading, e)
	}
	return r
}

func spanOf(h api.BoxHall, reading int) (api.Range, api.Errno) {
	if reading < len(h.Moves) {
		return box.Span(h, reading)
	}
	return box.Gain(h, reading-len(h.Moves))
}

// mustSpans returns the ends of all numbers.
func mustSpans(t *testing.T, h api.BoxHall) []api.Range {
	t.Helper()
	var out []api.Range
	for i := range readings(h) {
		out = append(out, mustSpan(t, h, i))
	}
	return out
}

func mustWrong(t *testing.T, h api.BoxHall) []int {
	t.Helper()
	list, e := box.Wrong(h)
	if e != api.OK {
		t.Fatal("Wrong", h, list, e)
	}
	return list
}

func mustKind(t *testing.T, h api.BoxHall, reading int) int {
	t.Helper()
	kind, e := box.Kind(h, reading)
	if e != api.OK {
		t.Fatal("Kind", h, reading, kind, e)
	}
	return kind
}
