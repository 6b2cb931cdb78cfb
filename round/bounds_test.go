package round_test

import (
	"math"
	"reflect"
	"slices"
	"testing"

	"pennyfall/api"
	"pennyfall/round"
)

// row is the pairs of numbers of some stretches.
func row(numbers ...int64) [][2]int64 {
	var out [][2]int64
	for pair := range slices.Chunk(numbers, 2) {
		out = append(out, [2]int64(pair))
	}
	return out
}

// boundsP are those of P, in the chapter.
func boundsP() [][][2]int64 {
	return [][][2]int64{
		row(0, 0, -1, 2, -1, 5),
		row(1, -1, 5, 4, -1, 7),
		row(3, -1, 7, -1, -1, 15),
	}
}

// changedP returns the bounds of P with another number.
func changedP(left, right, end int, number int64) [][][2]int64 {
	out := boundsP()
	out[left][right][end] = number
	return out
}

// P7.6: examples of the chapter, and others.
func TestCheckBoundsOfSome(t *testing.T) {
	long := boundsP()
	long[2] = append(long[2], [2]int64{-1, -1})
	short := boundsP()
	short[1] = short[1][:2]
	wide := changedP(0, 0, 0, 9001)
	wide[0] = wide[0][:2]
	both := changedP(1, 1, 0, -2)
	both[0][0][0] = 1
	for i, c := range []struct {
		p      api.RoundPier
		bounds [][][2]int64
		value  int64
		e      api.Errno
	}{
		{pierP(), boundsP(), 15, api.OK},
		{pierP(), changedP(2, 2, 1, 14), 14, api.OK},
		{pierP(), changedP(2, 2, 1, 0), 0, api.OK},
		{pierP(), changedP(2, 2, 1, 16), 0, api.ErrSum},
		{pierP(), changedP(2, 0, 0, 2), 15, api.OK},
		{pierP(), changedP(2, 1, 0, 2), 0, api.ErrSum},
		// not a pair of numbers for each stretch
		{pierP(), nil, 0, api.ErrEqual},
		{pierP(), boundsP()[:2], 0, api.ErrEqual},
		{pierP(), append(boundsP(), row(0, 0, 0, 0, 0, 0)), 0, api.ErrEqual},
		{pierP(), append(boundsP(), nil), 0, api.ErrEqual},
		{pierP(), [][][2]int64{nil, nil, nil}, 0, api.ErrEqual},
		{pierP(), long, 0, api.ErrEqual},
		{pierP(), short, 0, api.ErrEqual},
		{pierP(), wide, 0, api.ErrEqual},
		{pierP(), make([][][2]int64, 5000), 0, api.ErrEqual},
		{pier(5, stop(6, 1)), [][][2]int64{row(0, 0), row(1, -1)}, 0, api.ErrEqual},
		{pier(5, stop(4, 1)), [][][2]int64{row(0, 0, -1, 1)}, 0, api.ErrEqual},
		// numbers that cannot be
		{pierP(), changedP(0, 0, 1, -2), 0, api.ErrRange},
		{pierP(), changedP(2, 2, 0, -2), 0, api.ErrRange},
		{pierP(), changedP(2, 2, 0, 9001), 0, api.ErrRange},
		{pierP(), changedP(1, 1, 1, math.MaxInt64), 0, api.ErrRange},
		{pierP(), changedP(1, 1, 0, math.MinInt64), 0, api.ErrRange},
		{pierP(), both, 0, api.ErrRange},
		// Begin
		{pierP(), changedP(0, 0, 0, 1), 0, api.ErrSum},
		{pierP(), changedP(0, 0, 1, 1), 0, api.ErrSum},
		{pierP(), changedP(0, 0, 0, -1), 0, api.ErrSum},
		{pierP(), changedP(0, 0, 1, -1), 0, api.ErrSum},
		// ends that do not exist
		{pierP(), changedP(0, 1, 0, 0), 0, api.ErrSum},
		{pierP(), changedP(0, 2, 0, 9000), 0, api.ErrSum},
		{pierP(), changedP(1, 0, 1, 0), 0, api.ErrSum},
		{pierP(), changedP(2, 0, 1, 0), 0, api.ErrSum},
		// in time, or not
		{pierP(), changedP(2, 2, 1, -1), 0, api.ErrSum},
		{pierP(), changedP(2, 2, 0, 0), 0, api.ErrSum},
		{pierP(), changedP(1, 0, 0, -1), 0, api.ErrSum},
		{pierP(), changedP(1, 2, 0, 9), 0, api.ErrSum},
		// one stop, just in time or not
		{pier(5, stop(6, 1)), [][][2]int64{row(0, 0, -1, 1)}, 1, api.OK},
		{pier(5, stop(6, 1)), [][][2]int64{row(0, 0, -1, 0)}, 0, api.OK},
		{pier(5, stop(6, 1)), [][][2]int64{row(0, 0, -1, -1)}, 0, api.ErrSum},
		{pier(5, stop(6, 0)), [][][2]int64{row(0, 0, -1, -1)}, 0, api.ErrLate},
		{pier(5, stop(6, 0)), [][][2]int64{row(0, 0, -1, 0)}, 0, api.ErrSum},
		{pier(5, stop(4, 1)), [][][2]int64{row(0, 0), row(1, -1)}, 1, api.OK},
		{pier(5, stop(4, 0)), [][][2]int64{row(0, 0), row(-1, -1)}, 0, api.ErrLate},
		// numbers so small that there is a value, though no round is in time
		{pierQ(), [][][2]int64{row(0, 0, -1, 2, -1, 5), row(1, -1, 5, 4, -1, 7), row(3, -1, -1, -1, -1, -1)}, 0, api.ErrLate},
		{pierQ(), [][][2]int64{row(0, 0, -1, 2, -1, 5), row(1, -1, 3, 4, -1, 7), row(3, -1, 4, -1, -1, 7)}, 7, api.OK},
	} {
		if value, e := round.CheckBounds(c.p, c.bounds); value != c.value || e != c.e {
			t.Error(i, value, e)
		}
	}
}

// stopOf returns the index of the stop at an end of a stretch, or -1.
func stopOf(p api.RoundPier, left, right, end int) int {
	switch {
	case end == 0 && left > 0:
		return lefts(p) - left
	case end == 1 && right > 0:
		return lefts(p) + right - 1
	}
	return -1
}

// leastSum returns that of an end that exists, or a great number if there is none.
func leastSum(p api.RoundPier, bounds [][][2]int64, left, right, end int) int64 {
	at := p.Stops[stopOf(p, left, right, end)].Place
	if end == 0 {
		left--
	} else {
		right--
	}
	if left == 0 && right == 0 {
		return abs(at-p.Begin) + min(bounds[0][0][0], bounds[0][0][1])
	}
	out := int64(math.MaxInt64)
	for end, number := range bounds[left][right] {
		if stop := stopOf(p, left, right, end); stop >= 0 && number != -1 {
			out = min(out, number+abs(at-p.Stops[stop].Place))
		}
	}
	return out
}

// greatestNumber returns that which an end may have: -1 if it cannot be in time.
func greatestNumber(p api.RoundPier, bounds [][][2]int64, left, right, end int) int64 {
	if left == 0 && right == 0 {
		return 0
	}
	stop := stopOf(p, left, right, end)
	if stop < 0 {
		return -1
	}
	if sum := leastSum(p, bounds, left, right, end); sum <= p.Stops[stop].To {
		return sum
	}
	return -1
}

// each calls do with all ends of all stretches.
func each(p api.RoundPier, do func(left, right, end int)) {
	for left := range lefts(p) + 1 {
		for right := range len(p.Stops) - lefts(p) + 1 {
			do(left, right, 0)
			do(left, right, 1)
		}
	}
}

// built returns bounds whose numbers are told one after another.
func built(p api.RoundPier, number func(bounds [][][2]int64, left, right, end int) int64) [][][2]int64 {
	out := make([][][2]int64, lefts(p)+1)
	for left := range out {
		out[left] = make([][2]int64, len(p.Stops)-lefts(p)+1)
	}
	each(p, func(left, right, end int) {
		out[left][right][end] = number(out, left, right, end)
	})
	return out
}

// right returns right bounds of chance.
func (c *chance) right(p api.RoundPier) [][][2]int64 {
	return built(p, func(bounds [][][2]int64, left, right, end int) int64 {
		most := greatestNumber(p, bounds, left, right, end)
		if most <= 0 || c.below(2) == 0 {
			return most
		}
		return c.from(0, most)
	})
}

// worth returns what CheckBounds has to return for numbers that can be, by the
// definition.
func worth(p api.RoundPier, bounds [][][2]int64) (int64, api.Errno) {
	right := true
	each(p, func(left, right1, end int) {
		number, most := bounds[left][right1][end], greatestNumber(p, bounds, left, right1, end)
		right = right && number <= most && (number >= 0) == (most >= 0)
	})
	value := slices.Max(bounds[lefts(p)][len(p.Stops)-lefts(p)][:])
	for _, number := range bounds[lefts(p)][len(p.Stops)-lefts(p)] {
		if number >= 0 {
			value = min(value, number)
		}
	}
	switch {
	case !right:
		return 0, api.ErrSum
	case value < 0:
		return 0, api.ErrLate
	}
	return value, api.OK
}

// P7.6 and P7.8: right bounds of chance, and such with another number.
func TestCheckBounds(t *testing.T) {
	c, found := chance{at: 2}, map[api.Errno]int{}
	for _, p := range all() {
		bounds := c.right(p)
		want, e := worth(p, bounds)
		value, f := round.CheckBounds(p, bounds)
		if value != want || f != e || e == api.ErrSum {
			t.Fatal(p, bounds, value, f, want, e)
		}
		long, g := round.Shortest(p)
		if g == api.OK && (f != api.OK || long < value) || f == api.ErrLate && g != api.ErrLate {
			t.Fatal(p, bounds, value, f, long, g)
		}
		for range 3 {
			row := oneOf(&c, bounds)
			number := &row[c.below(len(row))][c.below(2)]
			before := *number
			*number = min(max(-1, before+c.from(-3, 3)), api.MaxRoundStep)
			want, e = worth(p, bounds)
			found[e]++
			if value, f := round.CheckBounds(p, bounds); value != want || f != e {
				t.Fatal(p, bounds, value, f, want, e)
			}
			*number = before
		}
	}
	for _, e := range []api.Errno{api.OK, api.ErrSum, api.ErrLate} {
		if found[e] < 500 {
			t.Error("too few of a kind:", found)
		}
	}
}

// P7.6: examples of the chapter, and others.
func TestBoundsOfSome(t *testing.T) {
	boundsQ := boundsP()
	boundsQ[2] = row(3, -1, -1, -1, -1, -1)
	for i, c := range []struct {
		p      api.RoundPier
		bounds [][][2]int64
	}{
		{pierP(), boundsP()},
		{pierQ(), boundsQ},
		{pier(5, stop(6, 1)), [][][2]int64{row(0, 0, -1, 1)}},
		{pier(5, stop(6, 0)), [][][2]int64{row(0, 0, -1, -1)}},
		{pier(5, stop(4, 1)), [][][2]int64{row(0, 0), row(1, -1)}},
		{pier(5, stop(4, 0)), [][][2]int64{row(0, 0), row(-1, -1)}},
		{pier(5, stop(4, 9), stop(6, 1)), [][][2]int64{row(0, 0, -1, 1), row(1, -1, 3, -1)}},
		{pier(0, stop(1, 0), stop(2, 9), stop(3, 9)), [][][2]int64{row(0, 0, -1, -1, -1, -1, -1, -1)}},
	} {
		if bounds := must(t, round.Bounds, c.p); !reflect.DeepEqual(bounds, c.bounds) {
			t.Error(i, bounds)
		}
	}
}

// soonestEnd returns the least step of an end in all ways to level a stretch, and
// nothing else, in time; -1 if there is none.
func soonestEnd(p api.RoundPier, left, right, end int) int64 {
	if left == 0 && right == 0 {
		return 0
	}
	stop := stopOf(p, left, right, end)
	if stop < 0 {
		return -1
	}
	first := lefts(p) - left
	part := pier(p.Begin, p.Stops[first:lefts(p)+right]...)
	out := int64(-1)
	for _, list := range inTime(part) {
		if long := lengthOf(part, list); list[len(list)-1] == stop-first && (out < 0 || long < out) {
			out = long
		}
	}
	return out
}

// P7.6: each number of Bounds is the least step at which its end can be reached, and
// the bounds are right.
func TestBounds(t *testing.T) {
	for _, p := range append(small(), great()[:600]...) {
		want := built(p, func(_ [][][2]int64, left, right, end int) int64 {
			return soonestEnd(p, left, right, end)
		})
		bounds := must(t, round.Bounds, p)
		if !reflect.DeepEqual(bounds, want) {
			t.Fatal(p, bounds, want)
		}
	}
}

// P7.8: the value of Bounds is that of the shortest round.
func TestProved(t *testing.T) {
	for _, p := range all() {
		bounds := must(t, round.Bounds, p)
		value, e := round.CheckBounds(p, bounds)
		long, f := round.Shortest(p)
		if value != long || e != f {
			t.Fatal(p, bounds, value, e, long, f)
		}
		if list, _ := round.Round(p); e == api.OK && lengthOf(p, list) != value {
			t.Fatal(p, list, value)
		}
		best := built(p, func(bounds [][][2]int64, left, right, end int) int64 {
			return greatestNumber(p, bounds, left, right, end)
		})
		if !reflect.DeepEqual(bounds, best) {
			t.Fatal(p, bounds, best)
		}
	}
}
