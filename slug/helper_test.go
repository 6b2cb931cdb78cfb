package slug_test

import (
	"slices"
	"testing"

	"pennyfall/api"
	"pennyfall/slug"
)

func ints(list ...int) []int { return list }

func plan(list ...[]int) [][]int { return list }

func light(copper int) api.SlugCase { return api.SlugCase{Copper: copper, Kind: api.SlugLight} }

func heavy(copper int) api.SlugCase { return api.SlugCase{Copper: copper, Kind: api.SlugHeavy} }

func none() api.SlugCase { return api.SlugCase{Copper: -1} }

func cases(list ...api.SlugCase) []api.SlugCase { return list }

func known(coppers ...int) api.SlugKnown { return api.SlugKnown{Coppers: coppers} }

// orNone returns what is known if there may be no slug, too.
func orNone(k api.SlugKnown) api.SlugKnown {
	return api.SlugKnown{Coppers: slices.Clone(k.Coppers), None: true}
}

// knownK to knownN are those of the chapter.
func knownK() api.SlugKnown { return orNone(known(3, 3, 3, 3)) }

func knownL() api.SlugKnown { return known(1, 1, 1) }

func knownM() api.SlugKnown { return known(3, 3) }

func knownN() api.SlugKnown { return known(3, 3, 0) }

func same(k, l api.SlugKnown) bool {
	return slices.Equal(k.Coppers, l.Coppers) && k.None == l.None
}

// chance is numbers that seem to be chance, and are the same in each run.
type chance struct{ at uint64 }

func (c *chance) below(n int) int {
	c.at = c.at*6364136223846793005 + 1442695040888963407
	return int((c.at >> 33) % uint64(n))
}

// known returns what is known of so many coppers, with some case.
func (c *chance) known(coppers int) api.SlugKnown {
	for {
		k := api.SlugKnown{None: c.below(2) == 0}
		kinds := 1 + c.below(15)
		for len(k.Coppers) < coppers {
			if kind := c.below(4); kinds>>kind&1 == 1 {
				k.Coppers = append(k.Coppers, kind)
			}
		}
		if len(casesOf(k)) > 0 {
			return k
		}
	}
}

// weighing returns one of so many coppers.
func (c *chance) weighing(coppers int) []int {
	out := make([]int, coppers)
	pan := c.below(coppers/2 + 1)
	for i := range pan {
		out[i], out[coppers-1-i] = 1, -1
	}
	return c.mixed(out)
}

// plan returns a plan of so many weighings.
func (c *chance) plan(coppers, weighings int) [][]int {
	var out [][]int
	for range weighings {
		out = append(out, c.weighing(coppers))
	}
	return out
}

// mixed returns a list in another order.
func (c *chance) mixed(list []int) []int {
	var out []int
	for i, x := range list {
		out = slices.Insert(out, c.below(i+1), x)
	}
	return out
}

// eachList calls do with all lists of so many numbers from least to most.
func eachList(many, least, most int, do func(list []int)) {
	var more func(list []int)
	more = func(list []int) {
		if len(list) == many {
			do(slices.Clone(list))
			return
		}
		for x := least; x <= most; x++ {
			more(append(list, x))
		}
	}
	more(make([]int, 0, many))
}

// weighings returns all of so many coppers.
func weighings(coppers int) [][]int {
	var out [][]int
	eachList(coppers, -1, 1, func(w []int) {
		sum := 0
		for _, pan := range w {
			sum += pan
		}
		if sum == 0 {
			out = append(out, w)
		}
	})
	return out
}

// small returns all that can be known of up to so many coppers.
func small(most int) []api.SlugKnown {
	var out []api.SlugKnown
	for coppers := 1; coppers <= most; coppers++ {
		eachList(coppers, 0, 3, func(list []int) {
			out = append(out, orNone(known(list...)))
			if slices.Max(list) > 0 {
				out = append(out, known(list...))
			}
		})
	}
	return out
}

// some returns all that can be known of few coppers, and much of more of them.
func some() []api.SlugKnown {
	out := small(3)
	c := chance{at: 1}
	for i := range 2000 {
		out = append(out, c.known(1+i%api.MaxSlugCoppers))
	}
	return out
}

// casesOf lists the cases by the definition.
func casesOf(k api.SlugKnown) []api.SlugCase {
	var out []api.SlugCase
	for i, may := range k.Coppers {
		if may == 1 || may == 3 {
			out = append(out, light(i))
		}
		if may == 2 || may == 3 {
			out = append(out, heavy(i))
		}
	}
	if k.None {
		out = append(out, none())
	}
	return out
}

// resultOf weighs coppers of ten each, and a slug of nine or eleven.
func resultOf(w []int, c api.SlugCase) int {
	left := 0 // more than in the right pan
	for i, pan := range w {
		weight := 10
		if i == c.Copper {
			weight += 2*c.Kind - 3
		}
		left += weight * pan
	}
	return left
}

// learnedOf takes the cases away by the definition; none may be left.
func learnedOf(k api.SlugKnown, w []int, result int) api.SlugKnown {
	out := api.SlugKnown{Coppers: slices.Clone(k.Coppers), None: k.None}
	for _, c := range casesOf(k) {
		switch {
		case resultOf(w, c) == result:
		case c == none():
			out.None = false
		default:
			out.Coppers[c.Copper] -= c.Kind
		}
	}
	return out
}

// tells tells whether a plan tells two cases.
func tells(plan [][]int, c, d api.SlugCase) bool {
	return slices.ContainsFunc(plan, func(w []int) bool { return resultOf(w, c) != resultOf(w, d) })
}

// toldOf returns the cases in which a plan has these results.
func toldOf(k api.SlugKnown, plan [][]int, results []int) []api.SlugCase {
	var out []api.SlugCase
	for _, c := range casesOf(k) {
		if slices.Equal(resultsOf(plan, c), results) {
			out = append(out, c)
		}
	}
	return out
}

func resultsOf(plan [][]int, c api.SlugCase) []int {
	var out []int
	for _, w := range plan {
		out = append(out, resultOf(w, c))
	}
	return out
}

func mustNeeded(t *testing.T, k api.SlugKnown) int {
	t.Helper()
	many, e := slug.Needed(k)
	if e != api.OK {
		t.Fatal("Needed", k, many, e)
	}
	return many
}

func mustNext(t *testing.T, k api.SlugKnown) []int {
	t.Helper()
	w, e := slug.Next(k)
	if e != api.OK || slug.CheckWeighing(k, w) != api.OK {
		t.Fatal("Next", k, w, e)
	}
	return w
}

func mustLearn(t *testing.T, k api.SlugKnown, w []int, result int) api.SlugKnown {
	t.Helper()
	l, e := slug.Learned(k, w, result)
	if e != api.OK {
		t.Fatal("Learned", k, w, result, e)
	}
	return l
}

func mustResult(t *testing.T, k api.SlugKnown, w []int, c api.SlugCase) int {
	t.Helper()
	result, e := slug.Result(k, w, c)
	if e != api.OK {
		t.Fatal("Result", k, w, c, e)
	}
	return result
}
