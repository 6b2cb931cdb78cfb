package slug_test

import (
	"math"
	"slices"
	"testing"

	"pennyfall/api"
	"pennyfall/slug"
)

// P5.2, and that all functions with a weighing return its errors before others.
func TestCheckWeighing(t *testing.T) {
	twelve := orNone(known(slices.Repeat(ints(3), 12)...))
	for i, c := range []struct {
		k api.SlugKnown
		w []int
		e api.Errno
	}{
		{knownL(), ints(1, -1, 0), api.OK},
		{knownL(), ints(0, 0, 0), api.OK},
		{knownL(), ints(0, 1, -1), api.OK},
		{known(1), ints(0), api.OK},
		{twelve, append(slices.Repeat(ints(1), 6), slices.Repeat(ints(-1), 6)...), api.OK},
		{twelve, make([]int, 12), api.OK},
		{knownL(), ints(1, -1), api.ErrEqual},
		{knownL(), nil, api.ErrEqual},
		{knownL(), ints(1, -1, 0, 0), api.ErrEqual},
		{twelve, make([]int, 13), api.ErrEqual},
		{knownL(), ints(2, -2, 0), api.ErrRange},
		{knownL(), ints(2, -1, -1), api.ErrRange},
		{knownL(), ints(1, 1, -2), api.ErrRange},
		{knownL(), ints(math.MinInt, math.MinInt, 0), api.ErrRange},
		{knownL(), ints(math.MaxInt, 1, -1), api.ErrRange},
		{knownL(), ints(1, 1, 0), api.ErrSum},
		{knownL(), ints(1, 0, 0), api.ErrSum},
		{knownL(), ints(-1, -1, 1), api.ErrSum},
		{known(1), ints(-1), api.ErrSum},
		{twelve, slices.Repeat(ints(1), 12), api.ErrSum},
		// each error before the next one
		{knownL(), ints(2, -2), api.ErrEqual},
		{knownL(), ints(1, 1), api.ErrEqual},
		{knownL(), ints(2, 0, 0), api.ErrRange},
		{knownL(), ints(1, 1, 3), api.ErrRange},
	} {
		_, result := slug.Result(c.k, c.w, heavy(99))
		_, learned := slug.Learned(c.k, c.w, 2)
		_, after := slug.After(c.k, c.w)
		if e := slug.CheckWeighing(c.k, c.w); e != c.e {
			t.Error(i, e)
		}
		if c.e != api.OK && (result != c.e || learned != c.e || after != c.e) {
			t.Error(i, result, learned, after)
		}
		if c.e == api.OK && (result != api.ErrArg || learned != api.ErrRange) {
			t.Error(i, result, learned)
		}
	}
}

// P5.2: examples of the chapter, and others.
func TestResultOfSome(t *testing.T) {
	for i, c := range []struct {
		k      api.SlugKnown
		w      []int
		c      api.SlugCase
		result int
		e      api.Errno
	}{
		{knownL(), ints(1, -1, 0), light(0), -1, api.OK},
		{knownL(), ints(1, -1, 0), light(1), 1, api.OK},
		{knownL(), ints(1, -1, 0), light(2), 0, api.OK},
		{knownL(), ints(1, -1, 0), heavy(0), 0, api.ErrArg},
		{knownK(), ints(1, -1, 0, 0), heavy(0), 1, api.OK},
		{knownK(), ints(1, -1, 0, 0), heavy(1), -1, api.OK},
		{knownK(), ints(1, -1, 0, 0), heavy(3), 0, api.OK},
		{knownK(), ints(1, -1, 0, 0), none(), 0, api.OK},
		{knownL(), ints(1, -1, 0), none(), 0, api.ErrArg},
		{knownK(), ints(1, -1, 0, 0), light(4), 0, api.ErrArg},
		{knownK(), ints(1, -1, 0, 0), light(-1), 0, api.ErrArg},
		{knownK(), ints(1, -1, 0, 0), api.SlugCase{}, 0, api.ErrArg},
		{knownK(), ints(1, -1, 0, 0), api.SlugCase{Copper: 0, Kind: 3}, 0, api.ErrArg},
		{knownK(), ints(1, -1, 0, 0), api.SlugCase{Copper: -2}, 0, api.ErrArg},
		{knownK(), ints(1, -1, 0, 0), api.SlugCase{Copper: math.MinInt, Kind: math.MaxInt}, 0, api.ErrArg},
		{knownN(), ints(1, 0, -1), light(2), 0, api.ErrArg},
		{knownN(), ints(1, 0, -1), light(0), -1, api.OK},
	} {
		if result, e := slug.Result(c.k, c.w, c.c); result != c.result || e != c.e {
			t.Error(i, result, e)
		}
	}
}

// P5.3: examples of the chapter, and others.
func TestLearnedOfSome(t *testing.T) {
	for i, c := range []struct {
		k       api.SlugKnown
		w       []int
		result  int
		learned api.SlugKnown
		e       api.Errno
	}{
		{knownK(), ints(1, -1, 0, 0), 1, known(2, 1, 0, 0), api.OK},
		{knownK(), ints(1, -1, 0, 0), -1, known(1, 2, 0, 0), api.OK},
		{knownK(), ints(1, -1, 0, 0), 0, orNone(known(0, 0, 3, 3)), api.OK},
		{knownL(), ints(0, 0, 0), 1, known(), api.ErrSlug},
		{knownL(), ints(0, 0, 0), -1, known(), api.ErrSlug},
		{knownL(), ints(0, 0, 0), 0, knownL(), api.OK},
		{knownL(), ints(0, 0, 0), 2, known(), api.ErrRange},
		{knownL(), ints(0, 0, 0), -2, known(), api.ErrRange},
		{knownL(), ints(0, 0, 0), math.MaxInt, known(), api.ErrRange},
		{knownL(), ints(0, 0, 0), math.MinInt, known(), api.ErrRange},
		{knownM(), ints(1, -1), 0, known(), api.ErrSlug},
		{orNone(knownM()), ints(1, -1), 0, orNone(known(0, 0)), api.OK},
		{known(2, 0), ints(1, -1), 1, known(2, 0), api.OK},
		{known(2, 0), ints(1, -1), -1, known(), api.ErrSlug},
		{known(1, 2, 3, 0), ints(1, 1, -1, -1), 1, known(0, 2, 1, 0), api.OK},
		{known(1, 2, 3, 0), ints(1, 1, -1, -1), -1, known(1, 0, 2, 0), api.OK},
	} {
		if learned, e := slug.Learned(c.k, c.w, c.result); !same(learned, c.learned) || e != c.e {
			t.Error(i, learned, e)
		}
	}
}

// checkWeighed holds Result and Learned against the definitions (P5.2, P5.3), and
// the cases that are learned against P5.12.
func checkWeighed(t *testing.T, k api.SlugKnown, w []int) {
	t.Helper()
	in := map[api.SlugCase]int{}
	for result := -1; result <= 1; result++ {
		want := learnedOf(k, w, result)
		learned, e := slug.Learned(k, w, result)
		if len(casesOf(want)) == 0 {
			if !same(learned, known()) || e != api.ErrSlug {
				t.Fatal(k, w, result, learned, e)
			}
			continue
		}
		if !same(learned, want) || e != api.OK {
			t.Fatal(k, w, result, learned, e)
		}
		for _, c := range casesOf(learned) {
			in[c]++
			if mustResult(t, learned, w, c) != result {
				t.Fatal(k, w, result, c)
			}
		}
	}
	all := append(casesOf(orNone(known(slices.Repeat(ints(3), len(k.Coppers))...))), light(len(k.Coppers)), heavy(-1))
	for _, c := range all {
		is := slices.Contains(casesOf(k), c)
		result, e := slug.Result(k, w, c)
		if is && (result != resultOf(w, c) || e != api.OK || in[c] != 1) {
			t.Fatal(k, w, c, result, e, in[c])
		}
		if !is && (result != 0 || e != api.ErrArg || in[c] != 0) {
			t.Fatal(k, w, c, result, e, in[c])
		}
	}
}

// P5.2, P5.3 and P5.12, by the definitions.
func TestWeighed(t *testing.T) {
	for _, k := range small(4) {
		for _, w := range weighings(len(k.Coppers)) {
			checkWeighed(t, k, w)
		}
	}
	c := chance{at: 2}
	for _, k := range some() {
		for range 5 {
			checkWeighed(t, k, c.weighing(len(k.Coppers)))
		}
	}
}
