package ring_test

import (
	"math"
	"slices"
	"testing"

	"pennyfall/api"
	"pennyfall/ring"
)

// P8.2: examples of the chapter, and others.
func TestCheckRingsOfSome(t *testing.T) {
	for i, c := range []struct {
		b     api.RingBook
		rings []int
		many  int
		e     api.Errno
	}{
		{bookB(), ints(0, 1, 2, 2), 3, api.OK},
		{bookB(), ints(5, 1, 0, 0), 3, api.OK},
		{bookB(), ints(7, 6, 5, 4), 4, api.OK},
		{bookB(), ints(0, 1, 1, 2), 0, api.ErrRing},
		{bookB(), ints(0, 0, 0, 0), 0, api.ErrRing},
		{bookB(), ints(0, 1, 2), 0, api.ErrEqual},
		{bookB(), ints(0, 1, 2, 2, 2), 0, api.ErrEqual},
		{bookB(), nil, 0, api.ErrEqual},
		{bookB(), make([]int, 5000), 0, api.ErrEqual},
		{bookB(), ints(8, 1, 2, 2), 0, api.ErrRange},
		{bookB(), ints(0, 1, 2, -1), 0, api.ErrRange},
		{bookB(), ints(math.MinInt, 1, 2, math.MaxInt), 0, api.ErrRange},
		{book(apart(1)), ints(7), 1, api.OK},
		{book(apart(8)), make([]int, 8), 1, api.OK},
		{book(together(8)), ints(7, 6, 5, 4, 3, 2, 1, 0), 8, api.OK},
		// the first error before the others
		{bookB(), ints(8, 8, 8), 0, api.ErrEqual},
		{bookB(), ints(0, 0, 0, 8), 0, api.ErrRange},
	} {
		if many, e := ring.CheckRings(c.b, c.rings); many != c.many || e != c.e {
			t.Error(i, many, e)
		}
	}
}

// P8.2, by the definition: all rings of few keys, some of more.
func TestCheckRings(t *testing.T) {
	c, found := chance{at: 2}, map[api.Errno]int{}
	few := [][][]int{nil, lists(1, 8), lists(2, 8), lists(3, 8)}
	for _, b := range all() {
		g := graphOf(b)
		var tried [][]int
		if len(g) <= 3 {
			tried = few[len(g)]
		}
		for range 30 {
			var rings []int
			most := max(1, c.below(9))
			for range g {
				rings = append(rings, c.below(most))
			}
			tried = append(tried, rings)
		}
		for _, rings := range tried {
			want, e := different(rings), api.OK
			if !g.areRight(rings) {
				want, e = 0, api.ErrRing
			}
			found[e]++
			if many, f := ring.CheckRings(b, rings); many != want || f != e {
				t.Fatal(b, rings, many, f, want, e)
			}
		}
	}
	if found[api.OK] < 1000 || found[api.ErrRing] < 1000 {
		t.Error("too few of a kind:", found)
	}
}

// P8.3: examples of the chapter, and others.
func TestRingsOfSome(t *testing.T) {
	for i, c := range []struct {
		b     api.RingBook
		rings []int
	}{
		{bookB(), ints(0, 1, 2, 2)},
		{bookC(), ints(0, 1, 0, 1, 2)},
		{bookG(), ints(0, 1, 0, 1, 0, 1, 2)},
		{book(apart(1)), ints(0)},
		{book(apart(8)), ints(0, 0, 0, 0, 0, 0, 0, 0)},
		{book(together(8)), ints(0, 1, 2, 3, 4, 5, 6, 7)},
		// each key on the first ring on which it can be is one ring too many
		{book(apart(4), 0, 2, 1, 3, 2, 3), ints(0, 1, 1, 0)},
		{book(apart(6), 0, 3, 0, 5, 1, 2, 1, 4, 2, 5, 3, 4), ints(0, 1, 0, 1, 0, 1)},
	} {
		rings, many := must(t, ring.Rings, c.b), must(t, ring.Fewest, c.b)
		if !slices.Equal(rings, c.rings) || many != different(c.rings) {
			t.Error(i, rings, many)
		}
	}
}

// P8.3, by the definition.
func TestRings(t *testing.T) {
	found := [9]int{}
	for _, b := range all() {
		g := graphOf(b)
		want := g.fewest()
		found[want]++
		rings, many := must(t, ring.Rings, b), must(t, ring.Fewest, b)
		if first := g.first(nil, want); many != want || !slices.Equal(rings, first) {
			t.Fatal(b, rings, many, first, want)
		}
		if many, e := ring.CheckRings(b, rings); many != want || e != api.OK {
			t.Fatal(b, rings, many, e)
		}
	}
	for many := 1; many <= 7; many++ {
		if found[many] < 10 {
			t.Error("too few of a kind:", found)
		}
	}
}

// P8.3, P8.4 and P8.8, by the definition, from all right rings of some books.
func TestAllRings(t *testing.T) {
	for i, b := range slices.Concat(small(), quarrelling()) {
		if len(b.Keys) == 5 && i%7 > 0 {
			continue
		}
		all := graphOf(b).right()
		many := make([]int64, api.MaxRingKeys+1)
		for _, rings := range all {
			for most := slices.Max(rings) + 1; most <= api.MaxRingKeys; most++ {
				many[most]++
			}
		}
		if got := counts(t, b); !slices.Equal(got, many) {
			t.Fatal(b, got, many)
		}
		// the list that comes first has as few as can be, and is the first of these
		first := slices.MinFunc(all, func(a, b []int) int { return different(a) - different(b) })
		if rings := must(t, ring.Rings, b); !slices.Equal(rings, first) {
			t.Fatal(b, rings, first)
		}
		fewest := slices.DeleteFunc(all, func(rings []int) bool { return different(rings) > different(first) })
		checkKinds(t, b, fewest)
	}
}

// checkKinds checks what Kind tells of all pairs against all of the fewest rings.
func checkKinds(t *testing.T, b api.RingBook, fewest [][]int) {
	t.Helper()
	for _, pair := range pairs(len(b.Keys)) {
		same := 0
		for _, rings := range fewest {
			if rings[pair[0]] == rings[pair[1]] {
				same++
			}
		}
		want := api.RingMay
		switch same {
		case 0:
			want = api.RingNever
		case len(fewest):
			want = api.RingAlways
		}
		for _, p := range [][2]int{pair, {pair[1], pair[0]}} {
			if kind, e := ring.Kind(b, p[0], p[1]); kind != want || e != api.OK {
				t.Fatal(b, p, kind, e, want)
			}
		}
	}
}

// P8.4: examples of the chapter, and others.
func TestCountOfSome(t *testing.T) {
	for i, c := range []struct {
		b     api.RingBook
		rings int
		many  int64
		e     api.Errno
	}{
		{bookB(), 3, 6, api.OK},
		{bookB(), 4, 48, api.OK},
		{bookB(), 2, 0, api.OK},
		{bookB(), 0, 0, api.OK},
		{bookC(), 3, 30, api.OK},
		{bookC(), 2, 0, api.OK},
		{bookC(), 9, 0, api.ErrArg},
		{bookC(), -1, 0, api.ErrArg},
		{bookC(), math.MinInt, 0, api.ErrArg},
		{bookC(), math.MaxInt, 0, api.ErrArg},
		{bookC(), 8, 7*7*7*7*7 - 7, api.OK},
		{book(apart(1)), 0, 0, api.OK},
		{book(apart(1)), 1, 1, api.OK},
		{book(apart(8)), 1, 1, api.OK},
		{book(apart(8)), 8, 16777216, api.OK},
		{book(together(8)), 7, 0, api.OK},
		{book(together(8)), 8, 40320, api.OK},
		{book(together(2)), 8, 56, api.OK},
	} {
		if many, e := ring.Count(c.b, c.rings); many != c.many || e != c.e {
			t.Error(i, many, e)
		}
	}
}

// P8.4, by the definition.
func TestCount(t *testing.T) {
	for _, b := range all() {
		if got, want := counts(t, b), graphOf(b).counts(); !slices.Equal(got, want) {
			t.Fatal(b, got, want)
		}
	}
}

// P8.8: examples of the chapter, and others.
func TestKindOfSome(t *testing.T) {
	for i, c := range []struct {
		b        api.RingBook
		one, two int
		kind     int
		e        api.Errno
	}{
		{bookB(), 2, 3, api.RingAlways, api.OK},
		{bookB(), 3, 2, api.RingAlways, api.OK},
		{bookB(), 0, 1, api.RingNever, api.OK},
		{bookC(), 0, 2, api.RingMay, api.OK},
		{book(apart(2)), 0, 1, api.RingAlways, api.OK},
		{book(apart(3), 0, 1), 0, 2, api.RingMay, api.OK},
		{book(apart(3), 0, 1, 0, 2), 1, 2, api.RingAlways, api.OK},
		// no two of these clash, but two rings are not enough if they are on one
		{book(apart(4), 0, 1, 1, 2, 2, 3), 0, 3, api.RingNever, api.OK},
		{bookC(), 0, 0, 0, api.ErrArg},
		{bookC(), 0, 5, 0, api.ErrArg},
		{bookC(), 5, 0, 0, api.ErrArg},
		{bookC(), -1, 0, 0, api.ErrArg},
		{bookC(), 0, -1, 0, api.ErrArg},
		{bookC(), math.MaxInt, math.MinInt, 0, api.ErrArg},
	} {
		if kind, e := ring.Kind(c.b, c.one, c.two); kind != c.kind || e != c.e {
			t.Error(i, kind, e)
		}
	}
}

// P8.8: with two keys that are one, and with a quarrel more.
func TestKind(t *testing.T) {
	found := [3]int{}
	for _, b := range all() {
		g := graphOf(b)
		for _, p := range pairs(len(g)) {
			want := g.kind(p[0], p[1])
			found[want]++
			if kind, e := ring.Kind(b, p[0], p[1]); kind != want || e != api.OK {
				t.Fatal(b, p, kind, e, want)
			}
		}
	}
	if slices.Min(found[:]) < 500 {
		t.Error("too few of a kind:", found)
	}
}
