package ring_test

import (
	"math"
	"slices"
	"testing"

	"pennyfall/api"
	"pennyfall/ring"
)

// P8.5: examples of the chapter, and others.
func TestCheckGroupOfSome(t *testing.T) {
	for i, c := range []struct {
		b    api.RingBook
		keys []int
		e    api.Errno
	}{
		{bookB(), ints(0, 1, 3), api.OK},
		{bookB(), ints(0, 1, 2), api.OK},
		{bookB(), ints(0, 2), api.OK},
		{bookB(), ints(3), api.OK},
		{book(together(8)), ints(0, 1, 2, 3, 4, 5, 6, 7), api.OK},
		{bookB(), ints(2, 3), api.ErrSum},
		{bookB(), ints(0, 1, 2, 3), api.ErrSum},
		{bookC(), ints(0, 1, 2), api.ErrSum},
		{bookB(), nil, api.ErrRange},
		{bookB(), ints(4), api.ErrRange},
		{bookB(), ints(-1), api.ErrRange},
		{bookB(), ints(-1, 0), api.ErrRange},
		{bookB(), ints(1, 0), api.ErrRange},
		{bookB(), ints(0, 0), api.ErrRange},
		{bookB(), ints(0, 1, 1), api.ErrRange},
		{bookB(), ints(0, 3, 1), api.ErrRange},
		{bookB(), ints(0, 1, 2, 3, 4), api.ErrRange},
		{bookB(), ints(2, 3, 4), api.ErrRange},
		{bookB(), ints(2, 3, 3), api.ErrRange},
		{bookB(), ints(math.MinInt, math.MaxInt), api.ErrRange},
		{bookB(), ints(math.MaxInt, math.MinInt), api.ErrRange},
		{bookB(), make([]int, 5000), api.ErrRange},
	} {
		if e := ring.CheckGroup(c.b, c.keys); e != c.e {
			t.Error(i, e)
		}
	}
}

// P8.5, by the definition: all lists of some keys, strictly increasing.
func TestCheckGroup(t *testing.T) {
	for _, b := range all() {
		g := graphOf(b)
		for set := range 1 << len(g) {
			list, want := members(set), api.ErrSum
			switch {
			case set == 0:
				want = api.ErrRange
			case g.isGroup(list):
				want = api.OK
			}
			if e := ring.CheckGroup(b, list); e != want {
				t.Fatal(b, list, e, want)
			}
		}
	}
}

// P8.5: examples of the chapter, and others.
func TestGroupOfSome(t *testing.T) {
	for i, c := range []struct {
		b     api.RingBook
		group []int
	}{
		{bookB(), ints(0, 1, 2)},
		{bookC(), ints(0, 1)},
		{book(apart(3)), ints(0)},
		{book(together(8)), ints(0, 1, 2, 3, 4, 5, 6, 7)},
		{book(apart(6), 0, 1, 1, 5, 2, 3, 2, 4, 3, 4), ints(2, 3, 4)},
		{book(apart(6), 0, 4, 0, 5, 1, 2, 1, 3, 2, 3, 4, 5), ints(0, 4, 5)},
	} {
		if group := must(t, ring.Group, c.b); !slices.Equal(group, c.group) {
			t.Error(i, group)
		}
	}
}

// P8.5, by the definition.
func TestGroup(t *testing.T) {
	found := [9]int{}
	for _, b := range all() {
		group, want := must(t, ring.Group, b), graphOf(b).group()
		found[len(want)]++
		if e := ring.CheckGroup(b, group); !slices.Equal(group, want) || e != api.OK {
			t.Fatal(b, group, want, e)
		}
	}
	for many := 1; many <= 7; many++ {
		if found[many] < 10 {
			t.Error("too few of a kind:", found)
		}
	}
}

// P8.6: examples of the chapter, and others.
func TestCheckCircleOfSome(t *testing.T) {
	for i, c := range []struct {
		b    api.RingBook
		keys []int
		e    api.Errno
	}{
		{bookC(), ints(0, 1, 2, 3, 4), api.OK},
		{bookC(), ints(2, 1, 0, 4, 3), api.OK},
		{bookB(), ints(2, 1, 0), api.OK},
		{bookB(), ints(3, 1, 0), api.OK},
		{bookG(), ints(6, 0, 1, 2, 3, 4, 5), api.OK},
		{book(together(8)), ints(3, 7, 0, 5, 1, 2, 6), api.OK},
		{bookC(), ints(0, 1, 2), api.ErrSum},
		{bookC(), ints(0, 1, 2, 4, 3), api.ErrSum},
		{bookC(), ints(0, 2, 4, 1, 3), api.ErrSum},
		{book(apart(3), 0, 1, 1, 2), ints(0, 1, 2), api.ErrSum}, // but the last one with the first one
		{book(apart(3), 0, 2, 1, 2), ints(0, 1, 2), api.ErrSum}, // but the first one with the next one
		{bookC(), ints(0, 1), api.ErrRule},
		{bookC(), nil, api.ErrRule},
		{bookC(), ints(3), api.ErrRule},
		{bookC(), ints(0, 1, 2, 3), api.ErrRule},
		{bookB(), ints(0, 1, 0), api.ErrRule},
		{bookB(), ints(0, 1, 2, 1, 2), api.ErrRule},
		{book(together(8)), ints(3, 7, 0, 5, 1, 2, 6, 4, 3), api.ErrRule},
		{bookB(), make([]int, 4999), api.ErrRule},
		{bookB(), ints(0, 1, 4), api.ErrRange},
		{bookB(), ints(0, 1, -1), api.ErrRange},
		{bookB(), ints(4), api.ErrRange},
		{bookB(), ints(0, 0, 0, 4), api.ErrRange},
		{bookB(), ints(math.MinInt, math.MaxInt, 0), api.ErrRange},
	} {
		if e := ring.CheckCircle(c.b, c.keys); e != c.e {
			t.Error(i, e)
		}
	}
}

// circling returns what CheckCircle has to return for some keys, by the definition.
func (g graph) circling(list []int) api.Errno {
	if len(list)%2 == 0 || len(list) < 3 || different(list) < len(list) {
		return api.ErrRule
	}
	for i, key := range list {
		if !g.clash(key, list[(i+1)%len(list)]) {
			return api.ErrSum
		}
	}
	return api.OK
}

// P8.6, by the definition: all short lists of keys, and some of more.
func TestCheckCircle(t *testing.T) {
	c, found := chance{at: 3}, map[api.Errno]int{}
	for _, b := range all() {
		g := graphOf(b)
		tried := slices.Concat(lists(2, len(g)), lists(3, len(g)))
		for range 30 {
			var list []int
			for range c.below(10) {
				list = append(list, c.below(len(g)))
			}
			tried = append(tried, list)
		}
		if circle, e := ring.Circle(b); e == api.OK {
			tried = append(tried, circle, append(circle[1:], circle[0]))
		}
		for _, list := range tried {
			want := g.circling(list)
			found[want]++
			if e := ring.CheckCircle(b, list); e != want {
				t.Fatal(b, list, e, want)
			}
		}
	}
	for _, e := range []api.Errno{api.OK, api.ErrSum, api.ErrRule} {
		if found[e] < 1000 {
			t.Error("too few of a kind:", found)
		}
	}
}

// P8.6 and P8.11: some of which there is none.
func TestNoCircle(t *testing.T) {
	for i, b := range []api.RingBook{
		book(apart(1)),
		book(apart(8)),
		book(together(2)),
		book(apart(4), 0, 1, 0, 3, 1, 2, 2, 3),
		book(apart(8), 0, 1, 0, 3, 0, 5, 1, 2, 1, 6, 2, 3, 2, 7, 4, 5, 4, 7, 5, 6),
	} {
		if circle, e := ring.Circle(b); len(circle) > 0 || e != api.ErrNone {
			t.Error(i, circle, e)
		}
	}
}

// P8.6 and P8.11, by the definition: the circle is one, and there is none with fewer
// keys.
func TestCircle(t *testing.T) {
	found := [9]int{}
	for _, b := range all() {
		g := graphOf(b)
		circle, e := ring.Circle(b)
		want, none := g.shortestOdd(), api.OK
		if want == 0 {
			none = api.ErrNone
		}
		found[want]++
		if len(circle) != want || e != none {
			t.Fatal(b, circle, e, want)
		}
		if e == api.OK && (g.circling(circle) != api.OK || ring.CheckCircle(b, circle) != api.OK) {
			t.Fatal(b, circle)
		}
		if (e == api.OK) != (g.fewest() > 2) {
			t.Fatal(b, circle, g.fewest())
		}
	}
	for _, long := range ints(0, 3, 5, 7) {
		if found[long] < 50 {
			t.Error("too few of a kind:", found)
		}
	}
}
