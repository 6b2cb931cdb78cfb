package ledge_test

import (
	"slices"
	"testing"

	"pennyfall/api"
	"pennyfall/ledge"
)

func ints(list ...int) []int { return list }

// dropsD and dropsE are those of the chapter, for five places.
func dropsD() []int { return ints(2, 0, 2, 1) }

func dropsE() []int { return ints(3, 4, 3, 4) }

// chance is numbers that seem to be chance, and are the same in each run.
type chance struct{ at uint64 }

func (c *chance) below(n int) int {
	c.at = c.at*6364136223846793005 + 1442695040888963407
	return int((c.at >> 33) % uint64(n))
}

// drops returns so many drops, mostly on places that are near to each other.
func (c *chance) drops(places, many int) []int {
	var out []int
	first := c.below(places)
	for range many {
		out = append(out, first+c.below(places-first))
	}
	return out
}

// mixed returns a list in another order.
func (c *chance) mixed(list []int) []int {
	var out []int
	for i, x := range list {
		out = slices.Insert(out, c.below(i+1), x)
	}
	return out
}

// test is a ledge, and drops on it.
type test struct {
	places int
	drops  []int
}

// eachDrops calls do with all lists of so many drops.
func eachDrops(places, many int, do func(drops []int)) {
	var more func(drops []int)
	more = func(drops []int) {
		if len(drops) == many {
			do(slices.Clone(drops))
			return
		}
		for at := range places {
			more(append(drops, at))
		}
	}
	more(make([]int, 0, many))
}

// tests returns all drops on ledges that are small, and many on all of them.
func tests() []test {
	var out []test
	for places := 1; places <= 4; places++ {
		for many := range 6 {
			eachDrops(places, many, func(drops []int) { out = append(out, test{places, drops}) })
		}
	}
	c := chance{at: 1}
	for i := range 6000 {
		places := 1 + i%api.MaxLedgePlaces
		out = append(out, test{places, c.drops(places, c.below(api.MaxLedgeDrops+1))})
	}
	return out
}

// rows returns those of the tests of which none falls.
func rows() []test {
	return slices.DeleteFunc(tests(), func(q test) bool { return laid(q).fell > 0 })
}

// outcome is what becomes of drops.
type outcome struct {
	lies       []int
	full       []int
	slid, fell int
}

// laid lays the coppers by the definition.
func laid(q test) outcome {
	var out outcome
	for _, from := range q.drops {
		at := from
		for slices.Contains(out.lies, at) {
			at++
		}
		out.slid += at - from
		if at == q.places {
			out.fell++
			out.lies = append(out.lies, -1)
		} else {
			out.lies = append(out.lies, at)
			out.full = append(out.full, at)
		}
	}
	slices.Sort(out.full)
	return out
}

// rounded lays the coppers round a wheel by the definition.
func rounded(q test) outcome {
	var out outcome
	for _, from := range q.drops {
		at := from
		for slices.Contains(out.lies, at) {
			out.slid++
			at++
			if at == q.places {
				at = 0
			}
		}
		out.lies = append(out.lies, at)
	}
	return out
}

// key is a list of places as one number: that of two different lists differs.
func key(list []int) int64 {
	out := int64(1)
	for _, at := range list {
		out = out*api.MaxLedgePlaces + int64(at)
	}
	return out
}

// counted is how many rows of a number of coppers there are: all of them, those
// that leave each set of places, and those with the coppers at each list of places.
type counted struct {
	all   int64
	leave map[int]int64
	lie   map[int64]int64
}

// setOf returns the number that has the bits of the places of a list.
func setOf(list []int) int {
	out := 0
	for _, at := range list {
		out |= 1 << at
	}
	return out
}

// members returns the places whose bits a number has.
func members(set int) []int {
	var out []int
	for at := 0; set>>at > 0; at++ {
		if set>>at&1 == 1 {
			out = append(out, at)
		}
	}
	return out
}

// countedRows counts all rows one by one, of which there are so many.
func countedRows(places, coppers int) counted {
	out := counted{leave: map[int]int64{}, lie: map[int64]int64{}}
	sets := make([]int64, 1<<places)
	var more func(set, many int, lies int64)
	more = func(set, many int, lies int64) {
		if many == coppers {
			out.all++
			sets[set]++
			if places <= 6 {
				out.lie[lies]++
			}
			return
		}
		for from := range places {
			at := from
			for set>>at&1 == 1 {
				at++
			}
			if at < places {
				more(set|1<<at, many+1, lies*api.MaxLedgePlaces+int64(at))
			}
		}
	}
	more(0, 0, 1)
	for set, many := range sets {
		if many > 0 {
			out.leave[set] = many
		}
	}
	return out
}

// eachLie calls do with all lists of so many different places.
func eachLie(places, many int, do func(lie []int)) {
	var more func(lie []int)
	more = func(lie []int) {
		if len(lie) == many {
			do(slices.Clone(lie))
			return
		}
		for at := range places {
			if !slices.Contains(lie, at) {
				more(append(lie, at))
			}
		}
	}
	more(make([]int, 0, many))
}

func mustLie(t *testing.T, q test) ([]int, int) {
	t.Helper()
	list, slid, e := ledge.Lie(q.places, q.drops)
	if e != api.OK || len(list) != len(q.drops) {
		t.Fatal("Lie", q, list, e)
	}
	return list, slid
}

func mustFull(t *testing.T, q test) ([]int, int) {
	t.Helper()
	list, fell, e := ledge.Full(q.places, q.drops)
	if e != api.OK {
		t.Fatal("Full", q, list, e)
	}
	return list, fell
}

func mustRound(t *testing.T, q test) ([]int, int) {
	t.Helper()
	list, slid, e := ledge.Round(q.places, q.drops)
	if e != api.OK || len(list) != len(q.drops) {
		t.Fatal("Round", q, list, e)
	}
	return list, slid
}

func mustLeave(t *testing.T, places int, full []int) int64 {
	t.Helper()
	many, e := ledge.Leave(places, full)
	if e != api.OK {
		t.Fatal("Leave", places, full, e)
	}
	return many
}

func mustWays(t *testing.T, places int, lie []int) int64 {
	t.Helper()
	many, e := ledge.Ways(places, lie)
	if e != api.OK {
		t.Fatal("Ways", places, lie, e)
	}
	return many
}

func mustCount(t *testing.T, places, coppers int) int64 {
	t.Helper()
	many, e := ledge.Count(places, coppers)
	if e != api.OK {
		t.Fatal("Count", places, coppers, e)
	}
	return many
}
