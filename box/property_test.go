package box_test

import (
	"testing"

	"pennyfall/api"
	"pennyfall/box"
)

// P6.9: a reading is narrower.
func TestNarrower(t *testing.T) {
	c, still, narrow := chance{at: 5}, 0, 0
	for _, h := range good(t, all()) {
		before := mustSpans(t, h)
		i := c.below(readings(h))
		less := with(h, i, c.any(*endsOf(h, i)))
		if isProved(less) {
			continue
		}
		still++
		for n, r := range mustSpans(t, less) {
			if !isIn(r, before[n]) {
				t.Fatal(h, less, n, r, before[n])
			}
			if r != before[n] {
				narrow++
			}
		}
	}
	if still < 500 || narrow < 500 {
		t.Error("too few of a kind:", still, narrow)
	}
}

// turned returns a hall with the other way of all moves, and the ends of the gains
// exchanged, with the other sign.
func turned(h api.BoxHall) api.BoxHall {
	out := cloned(h)
	for i, m := range h.Moves {
		out.Moves[i].From, out.Moves[i].To = m.To, m.From
	}
	for i, r := range h.Gains {
		out.Gains[i] = ranged(-r.Hi, -r.Lo)
	}
	return out
}

// P6.10
func TestTurned(t *testing.T) {
	c := chance{at: 6}
	for _, h := range all() {
		back := turned(h)
		list := [][]int64{c.truth(len(h.Moves), 4)}
		if truth, e := box.Truth(h); e == api.OK {
			list = append(list, truth)
		}
		if truth, e := box.Truth(back); e == api.OK {
			list = append(list, truth)
		}
		for _, truth := range list {
			if e, f := box.CheckTruth(h, truth), box.CheckTruth(back, truth); e != f {
				t.Fatal(h, truth, e, f)
			}
		}
		for i := range readings(h) {
			r, e := spanOf(h, i)
			s, f := spanOf(back, i)
			if i >= len(h.Moves) {
				s = ranged(-s.Hi, -s.Lo)
			}
			if r != s || e != f {
				t.Fatal(h, i, r, e, s, f)
			}
		}
	}
}

// joined returns a hall in which one store is taken into another one, the last one
// gets its number, and which of the moves are still there.
func joined(h api.BoxHall, one, gone int) (api.BoxHall, []int) {
	last := len(h.Gains) - 1
	out := cloned(h)
	out.Gains[one] = ranged(h.Gains[one].Lo+h.Gains[gone].Lo, h.Gains[one].Hi+h.Gains[gone].Hi)
	out.Gains[gone] = out.Gains[last]
	out.Gains = out.Gains[:last]
	number := func(store int) int {
		if store == gone {
			store = one
		}
		if store == last {
			store = gone
		}
		return store
	}
	out.Moves = nil
	var left []int
	for i, m := range h.Moves {
		m.From, m.To = number(m.From), number(m.To)
		if m.From != m.To {
			out.Moves = append(out.Moves, m)
			left = append(left, i)
		}
	}
	return out, left
}

// P6.11: two stores are taken as one.
func TestTogether(t *testing.T) {
	c, many, fewer := chance{at: 7}, 0, 0
	for _, h := range good(t, all()) {
		one, gone := c.below(len(h.Gains)), c.below(len(h.Gains))
		if one == gone {
			continue
		}
		less, left := joined(h, one, gone)
		if box.CheckHall(less) != api.OK { // the sums are beyond the limits
			continue
		}
		many++
		if len(left) < len(h.Moves) {
			fewer++
		}
		for i, r := range mustSpans(t, h) {
			for _, end := range numbers(r.Lo, r.Hi) {
				truth := mustTruth(t, with(h, i, ranged(end, end)))
				var rest []int64
				for _, n := range left {
					rest = append(rest, truth[n])
				}
				if e := box.CheckTruth(less, rest); e != api.OK {
					t.Fatal(h, one, gone, truth, less, rest, e)
				}
			}
		}
		for i, n := range left {
			if r, s := mustSpan(t, h, n), mustSpan(t, less, i); !isIn(r, s) {
				t.Fatal(h, one, gone, n, r, s)
			}
		}
	}
	if many < 500 || fewer < 300 {
		t.Error("too few of a kind:", many, fewer)
	}
}

// P6.12: a truth is added.
func TestFarther(t *testing.T) {
	c, many := chance{at: 8}, 0
	for _, h := range all() {
		truth := c.truth(len(h.Moves), int64(c.below(40)))
		far := cloned(h)
		for i, n := range numbersOf(h, truth) {
			r := endsOf(far, i)
			*r = ranged(r.Lo+n, r.Hi+n)
		}
		if box.CheckHall(far) != api.OK { // they are beyond the limits
			continue
		}
		many++
		for i, n := range numbersOf(h, truth) {
			r, e := spanOf(h, i)
			s, f := spanOf(far, i)
			if e == api.OK {
				r = ranged(r.Lo+n, r.Hi+n)
			}
			if r != s || e != f {
				t.Fatal(h, truth, i, r, e, s, f)
			}
		}
	}
	if many < 1000 {
		t.Error("too few within the limits:", many)
	}
}
