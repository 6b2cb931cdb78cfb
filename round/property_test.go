package round_test

import (
	"reflect"
	"slices"
	"testing"

	"pennyfall/api"
	"pennyfall/round"
)

// P7.11: each To is as much greater.
func TestLater(t *testing.T) {
	c, many := chance{at: 4}, 0
	for _, p := range all() {
		delay := must(t, round.Delay, p)
		for _, more := range []int64{c.from(-5, 5), -delay, -delay - 1} {
			far := changed(p, func(s *api.RoundStop) { s.To += more })
			if round.CheckPier(far) != api.OK { // some are beyond the limits
				continue
			}
			many++
			if d := must(t, round.Delay, far); d != delay-more || (d <= 0) != (must(t, round.Count, far) > 0) {
				t.Fatal(p, delay, far, d)
			}
		}
	}
	if many < 2000 {
		t.Error("too few within the limits:", many)
	}
}

// told is what is told of a pier that does not depend on where it lies.
type told struct {
	Long, Delay int64
	Many        int
	Spans       []api.Range
	Errors      []api.Errno
}

func toldOf(t *testing.T, p api.RoundPier) told {
	t.Helper()
	long, e := round.Shortest(p)
	spans, errors := spans(p)
	return told{long, must(t, round.Delay, p), must(t, round.Count, p), spans, append(errors, e)}
}

// turned returns a pier as it is seen from its other end.
func turned(p api.RoundPier) api.RoundPier {
	out := changed(p, func(s *api.RoundStop) { s.Place = api.MaxRoundPlace - s.Place })
	out.Begin = api.MaxRoundPlace - p.Begin
	slices.Reverse(out.Stops)
	return out
}

// P7.12: a pier is turned.
func TestTurned(t *testing.T) {
	for _, p := range all() {
		back := turned(p)
		here, there := toldOf(t, p), toldOf(t, back)
		slices.Reverse(there.Spans)
		if !reflect.DeepEqual(here, there) {
			t.Fatal(p, here, there)
		}
		for _, list := range roundsOf(p) {
			other := turnedList(list)
			steps, e := round.CheckRound(p, list)
			turnedSteps, f := round.CheckRound(back, other)
			slices.Reverse(turnedSteps)
			if !slices.Equal(steps, turnedSteps) || e != f {
				t.Fatal(p, list, steps, e, turnedSteps, f)
			}
		}
		stops, _ := round.Clash(p)
		others, _ := round.Clash(back)
		if len(stops) != len(others) {
			t.Fatal(p, stops, others)
		}
	}
}

// turnedList returns a list of all stops as they are seen from the other end.
func turnedList(list []int) []int {
	var out []int
	for _, stop := range list {
		out = append(out, len(list)-1-stop)
	}
	return out
}

// P7.12: all places are moved.
func TestMoved(t *testing.T) {
	c, many := chance{at: 5}, 0
	for _, p := range all() {
		most := max(p.Begin, p.Stops[len(p.Stops)-1].Place)
		by := c.from(-min(p.Begin, p.Stops[0].Place), api.MaxRoundPlace-most)
		far := changed(p, func(s *api.RoundStop) { s.Place += by })
		far.Begin += by
		if by != 0 {
			many++
		}
		q := c.valid(p)
		r := q.cloned()
		r.p = far
		if here, there := q.answers(), r.answers(); !equal(here, there) {
			t.Fatal(p, far, here, there)
		}
	}
	if many < 2000 {
		t.Error("too few are moved:", many)
	}
}

// P7.13: there is one stop less, at an end of the pier.
func TestLess(t *testing.T) {
	c, many := chance{at: 6}, 0
	for _, p := range great() {
		if len(p.Stops) == 1 {
			continue
		}
		gone := oneOf(&c, ints(0, len(p.Stops)-1))
		less := cloned(p)
		less.Stops = slices.Delete(less.Stops, gone, gone+1)
		for _, list := range inTime(p) {
			many++
			var rest []int
			for _, stop := range list {
				if stop > gone {
					stop--
				} else if stop == gone {
					continue
				}
				rest = append(rest, stop)
			}
			if _, e := round.CheckRound(less, rest); e != api.OK {
				t.Fatal(p, list, less, rest, e)
			}
		}
		if long, e := round.Shortest(p); e == api.OK && must(t, round.Shortest, less) > long {
			t.Fatal(p, long, less)
		}
	}
	if many < 1000 {
		t.Error("too few rounds:", many)
	}
}

// P7.13: one To is greater.
func TestGreaterTo(t *testing.T) {
	c, more := chance{at: 7}, 0
	for _, p := range all() {
		before := must(t, round.Count, p)
		far := cloned(p)
		s := &far.Stops[c.below(len(far.Stops))]
		s.To = min(s.To+c.from(0, 1+s.To), api.MaxRoundStep)
		after := must(t, round.Count, far)
		if after < before {
			t.Fatal(p, before, far, after)
		}
		if after > before {
			more++
		}
	}
	if more < 500 {
		t.Error("too few with more rounds:", more)
	}
}

// P7.14: each To is the greatest one.
func TestFree(t *testing.T) {
	for _, p := range all() {
		free := changed(p, func(s *api.RoundStop) { s.To = api.MaxRoundStep })
		least := min(p.Begin, p.Stops[0].Place)
		most := max(p.Begin, p.Stops[len(p.Stops)-1].Place)
		want := most - least + min(p.Begin-least, most-p.Begin)
		if long := must(t, round.Shortest, free); long != want {
			t.Fatal(free, long, want)
		}
	}
}

// P7.15: all distances and each To are as many times as great.
func TestScaled(t *testing.T) {
	c, many := chance{at: 8}, 0
	for _, p := range all() {
		by := c.from(2, 9)
		far := changed(p, func(s *api.RoundStop) { s.Place, s.To = s.Place*by, s.To*by })
		far.Begin *= by
		if round.CheckPier(far) != api.OK { // they are beyond the limits
			continue
		}
		many++
		want := toldOf(t, p)
		want.Long, want.Delay = want.Long*by, want.Delay*by
		for i, r := range want.Spans {
			want.Spans[i] = api.Range{Lo: r.Lo * by, Hi: r.Hi * by}
		}
		if got := toldOf(t, far); !reflect.DeepEqual(got, want) {
			t.Fatal(p, far, got, want)
		}
	}
	if many < 2000 {
		t.Error("too few within the limits:", many)
	}
}
