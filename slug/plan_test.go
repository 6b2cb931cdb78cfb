package slug_test

import (
	"math"
	"slices"
	"testing"

	"pennyfall/api"
	"pennyfall/slug"
)

// P5.4: the errors of plans, which Told returns, too, before its own.
func TestCheckPlanErrors(t *testing.T) {
	w := ints(1, -1, 0)
	for i, c := range []struct {
		plan [][]int
		e    api.Errno
	}{
		{slices.Repeat(plan(w), 6), api.OK},
		{slices.Repeat(plan(w), 7), api.ErrMany},
		{make([][]int, 100), api.ErrMany},
		{plan(w, ints(1, -1)), api.ErrEqual},
		{plan(nil), api.ErrEqual},
		{plan(w, ints(1, 2, 0)), api.ErrRange},
		{plan(w, w, ints(1, 1, 0)), api.ErrSum},
		// the error of the first weighing that has one
		{plan(w, ints(1, 1, 0), ints(1), ints(2, 0, 0)), api.ErrSum},
		{plan(ints(2, 0, 0), ints(1), ints(1, 1, 0)), api.ErrRange},
		{plan(ints(1), ints(2, 0, 0), ints(1, 1, 0)), api.ErrEqual},
		// the number of weighings before them
		{slices.Repeat(plan(ints(1)), 7), api.ErrMany},
		// they before what the plan tells
		{plan(ints(0, 0, 0), ints(1, 1, 0)), api.ErrSum},
	} {
		want := c.e
		if e := slug.CheckPlan(knownL(), c.plan); e != want {
			t.Error(i, e)
		}
		first, second, e := slug.Alike(knownL(), c.plan)
		if want == api.OK {
			want = api.ErrNone
		}
		if e != want || first != (api.SlugCase{}) || second != first {
			t.Error(i, first, second, e)
		}
		if want = c.e; want == api.OK {
			want = api.ErrEqual
		}
		if list, e := slug.Told(knownL(), c.plan, ints(2)); len(list) > 0 || e != want {
			t.Error(i, list, e)
		}
	}
}

// P5.4: examples of the chapter, and others.
func TestPlanOfSome(t *testing.T) {
	for i, c := range []struct {
		k             api.SlugKnown
		plan          [][]int
		first, second api.SlugCase
		isTold        bool
	}{
		{knownL(), plan(ints(1, -1, 0)), none(), none(), true},
		{knownM(), plan(ints(1, -1)), light(0), heavy(1), false}, // 0 heavy and 1 light are not told, either, but come later
		{knownM(), nil, light(0), heavy(0), false},
		{known(1), nil, none(), none(), true},
		{orNone(known(0, 0)), nil, none(), none(), true},
		{known(2), plan(ints(0)), none(), none(), true},
		{knownL(), plan(ints(0, 0, 0)), light(0), light(1), false},
		{knownN(), plan(ints(1, -1, 0), ints(1, 0, -1)), none(), none(), true},
		{knownK(), plan(ints(1, -1, 0, 0), ints(1, 0, -1, 0)), light(3), heavy(3), false},
		{knownK(), plan(ints(1, -1, 0, 0), ints(0, 1, -1, 0), ints(0, 0, 1, -1)), none(), none(), true},
		{orNone(known(1, 1)), plan(ints(0, 0), ints(1, -1)), none(), none(), true},
		{orNone(known(1, 1, 1)), plan(ints(1, -1, 0)), light(2), none(), false},
	} {
		e := slug.CheckPlan(c.k, c.plan)
		first, second, e2 := slug.Alike(c.k, c.plan)
		if c.isTold && (e != api.OK || first != (api.SlugCase{}) || second != first || e2 != api.ErrNone) {
			t.Error(i, e, first, second, e2)
		}
		if !c.isTold && (e != api.ErrSlug || first != c.first || second != c.second || e2 != api.OK) {
			t.Error(i, e, first, second, e2)
		}
	}
}

// P5.5: examples of the chapter, the order of the errors, and others.
func TestToldOfSome(t *testing.T) {
	w := ints(1, -1, 0, 0)
	for i, c := range []struct {
		k       api.SlugKnown
		plan    [][]int
		results []int
		list    []api.SlugCase
		e       api.Errno
	}{
		{knownK(), plan(w), ints(1), cases(heavy(0), light(1)), api.OK},
		{knownK(), plan(w), ints(0), cases(light(2), heavy(2), light(3), heavy(3), none()), api.OK},
		{knownK(), plan(w, w), ints(1, 1), cases(heavy(0), light(1)), api.OK},
		{knownK(), plan(w, w), ints(1, 0), nil, api.ErrSlug},
		{knownK(), plan(w, ints(1, 0, -1, 0)), ints(0, -1), cases(heavy(2)), api.OK},
		{knownK(), nil, nil, casesOf(knownK()), api.OK},
		{knownL(), plan(ints(0, 0, 0)), ints(1), nil, api.ErrSlug},
		{knownK(), plan(w), nil, nil, api.ErrEqual},
		{knownK(), nil, ints(0), nil, api.ErrEqual},
		{knownK(), plan(w), ints(1, 1), nil, api.ErrEqual},
		{knownK(), plan(w), ints(2), nil, api.ErrRange},
		{knownK(), plan(w, w), ints(0, -2), nil, api.ErrRange},
		{knownK(), plan(w), ints(math.MaxInt), nil, api.ErrRange},
		{knownK(), plan(w), ints(math.MinInt), nil, api.ErrRange},
		// each error before the next one
		{knownK(), plan(w), ints(2, 2), nil, api.ErrEqual},
		{knownK(), plan(w, w, w), ints(1, 0, 2), nil, api.ErrRange},
		{knownK(), plan(w, ints(1, 1, 0, 0)), ints(2), nil, api.ErrSum},
	} {
		if list, e := slug.Told(c.k, c.plan, c.results); !slices.Equal(list, c.list) || e != c.e {
			t.Error(i, list, e)
		}
	}
}

// firstAlike returns the first two cases that a plan does not tell.
func firstAlike(k api.SlugKnown, plan [][]int) (first, second api.SlugCase, found bool) {
	all := casesOf(k)
	for i, c := range all {
		for _, d := range all[i+1:] {
			if !tells(plan, c, d) {
				return c, d, true
			}
		}
	}
	return first, second, false
}

// checkPlan holds CheckPlan and Alike against the definitions (P5.4), and so P5.9,
// and what the plan needs against P5.10. It tells whether the plan tells all.
func checkPlan(t *testing.T, k api.SlugKnown, plan [][]int) bool {
	t.Helper()
	first, second, found := firstAlike(k, plan)
	e := slug.CheckPlan(k, plan)
	c, d, e2 := slug.Alike(k, plan)
	if found && (e != api.ErrSlug || c != first || d != second || e2 != api.OK) {
		t.Fatal(k, plan, e, c, d, e2)
	}
	if !found && (e != api.OK || c != first || d != second || e2 != api.ErrNone) {
		t.Fatal(k, plan, e, c, d, e2)
	}
	if !found {
		bound, e := slug.Bound(k)
		if len(plan) < bound || len(plan) < mustNeeded(t, k) || e != api.OK {
			t.Fatal(k, plan, bound, e)
		}
	}
	return !found
}

// P5.4, by the definition, P5.9 and P5.10.
func TestPlan(t *testing.T) {
	for _, k := range small(3) {
		all := weighings(len(k.Coppers))
		eachList(2, 0, len(all)-1, func(list []int) { checkPlan(t, k, plan(all[list[0]], all[list[1]])) })
	}
	c, kinds := chance{at: 3}, map[bool]int{}
	for _, k := range some() {
		for weighings := range api.MaxSlugWeighings + 1 {
			kinds[checkPlan(t, k, c.plan(len(k.Coppers), weighings))]++
		}
	}
	if kinds[true] < 1000 || kinds[false] < 1000 {
		t.Error("too few of a kind:", kinds)
	}
}

// learnedInTurn returns the cases that are learned of a plan's results, one after
// another; none if one of its weighings does not have its result.
func learnedInTurn(t *testing.T, k api.SlugKnown, plan [][]int, results []int) []api.SlugCase {
	for i, w := range plan {
		learned, e := slug.Learned(k, w, results[i])
		if e == api.ErrSlug {
			return nil
		}
		if e != api.OK {
			t.Fatal(k, w, results[i], e)
		}
		k = learned
	}
	return casesOf(k)
}

// checkTold holds Told against the definition (P5.5) and P5.12.
func checkTold(t *testing.T, k api.SlugKnown, plan [][]int, results []int) bool {
	t.Helper()
	want, wanted := toldOf(k, plan, results), api.OK
	if len(want) == 0 {
		wanted = api.ErrSlug
	}
	if list, e := slug.Told(k, plan, results); !slices.Equal(list, want) || e != wanted {
		t.Fatal(k, plan, results, list, e)
	}
	if list := learnedInTurn(t, k, plan, results); !slices.Equal(list, want) {
		t.Fatal(k, plan, results, list)
	}
	return len(want) > 0
}

// P5.5, by the definition, and P5.12.
func TestTold(t *testing.T) {
	c, kinds := chance{at: 4}, map[bool]int{}
	for _, k := range some() {
		p := c.plan(len(k.Coppers), c.below(api.MaxSlugWeighings+1))
		for _, x := range casesOf(k) {
			kinds[checkTold(t, k, p, resultsOf(p, x))]++
		}
		var results []int
		for range p {
			results = append(results, c.below(3)-1)
		}
		kinds[checkTold(t, k, p, results)]++
	}
	if kinds[true] < 1000 || kinds[false] < 1000 {
		t.Error("too few of a kind:", kinds)
	}
}
