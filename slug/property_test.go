package slug_test

import (
	"slices"
	"testing"

	"pennyfall/api"
	"pennyfall/slug"
)

// answerOf returns what is needed, or -1.
func answerOf(t *testing.T, k api.SlugKnown) int {
	t.Helper()
	many, e := slug.Needed(k)
	if e == api.ErrSlug {
		return -1
	}
	if e != api.OK {
		t.Fatal(k, many, e)
	}
	return many
}

// exchanged returns what is known if light and heavy are exchanged.
func exchanged(k api.SlugKnown) api.SlugKnown {
	out := api.SlugKnown{None: k.None}
	for _, may := range k.Coppers {
		out.Coppers = append(out.Coppers, ints(0, 2, 1, 3)[may])
	}
	return out
}

// P5.10: at least as many are needed as Bound says.
func TestBoundIsLeast(t *testing.T) {
	more := 0
	for _, k := range append(small(5), some()...) {
		bound, e := slug.Bound(k)
		many := answerOf(t, k)
		if e != api.OK || many >= 0 && many < bound {
			t.Fatal(k, many, bound, e)
		}
		if many > bound {
			more++
		}
	}
	if more < 10 {
		t.Error("too few that need more:", more)
	}
}

// P5.14: what is needed.
func TestTurned(t *testing.T) {
	c := chance{at: 6}
	for _, k := range append(small(5), some()...) {
		many := answerOf(t, k)
		mixed := api.SlugKnown{Coppers: c.mixed(k.Coppers), None: k.None}
		if n := answerOf(t, mixed); n != many {
			t.Fatal(k, many, mixed, n)
		}
		if n := answerOf(t, exchanged(k)); n != many {
			t.Fatal(k, many, exchanged(k), n)
		}
	}
}

// P5.14: results.
func TestExchanged(t *testing.T) {
	c, sunk := chance{at: 7}, 0
	for _, k := range some() {
		w := c.weighing(len(k.Coppers))
		var back []int
		for _, pan := range w {
			back = append(back, -pan)
		}
		for _, x := range casesOf(k) {
			result := mustResult(t, k, w, x)
			if n := mustResult(t, k, back, x); n != -result {
				t.Fatal(k, w, x, result, n)
			}
			y := x
			if x != none() {
				y.Kind = 3 - x.Kind
			}
			if n := mustResult(t, exchanged(k), w, y); n != -result {
				t.Fatal(k, w, x, result, n)
			}
			if result != 0 {
				sunk++
			}
		}
	}
	if sunk < 1000 {
		t.Error("too few with which a pan sinks:", sunk)
	}
}

// P5.15: one more good copper.
func TestOneMore(t *testing.T) {
	fewer, now := 0, 0
	for _, k := range append(small(5), some()...) {
		if len(k.Coppers) == api.MaxSlugCoppers {
			continue
		}
		many := answerOf(t, k)
		more := api.SlugKnown{Coppers: append(slices.Clone(k.Coppers), 0), None: k.None}
		n := answerOf(t, more)
		if many >= 0 && (n < 0 || n > many) {
			t.Fatal(k, many, n)
		}
		if n < many {
			fewer++
		}
		if n >= 0 && many < 0 {
			now++
		}
	}
	if fewer < 2 || now < 2 {
		t.Error("too few of a kind:", fewer, now)
	}
}

// P5.15: one case less.
func TestOneLess(t *testing.T) {
	fewer := 0
	for _, k := range append(small(5), some()...) {
		many := answerOf(t, k)
		for _, c := range casesOf(k) {
			less := api.SlugKnown{Coppers: slices.Clone(k.Coppers), None: k.None && c != none()}
			if c != none() {
				less.Coppers[c.Copper] -= c.Kind
			}
			if len(casesOf(less)) == 0 {
				continue
			}
			n := answerOf(t, less)
			if many >= 0 && (n < 0 || n > many) {
				t.Fatal(k, many, c, n)
			}
			if n < many {
				fewer++
			}
		}
	}
	if fewer < 100 {
		t.Error("too few that need fewer:", fewer)
	}
}

// P5.16
func TestAlone(t *testing.T) {
	for coppers := 1; coppers <= api.MaxSlugCoppers; coppers++ {
		for _, kind := range ints(1, 2) {
			k := known(slices.Repeat(ints(kind), coppers)...)
			bound, e := slug.Bound(k)
			if many := mustNeeded(t, k); many != bound || e != api.OK {
				t.Fatal(k, many, bound, e)
			}
		}
	}
}
