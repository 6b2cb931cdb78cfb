package ledge_test

import (
	"slices"
	"testing"

	"pennyfall/api"
	"pennyfall/ledge"
)

// P4.9
func TestOrder(t *testing.T) {
	c, moved := chance{at: 2}, 0
	for _, q := range tests() {
		mixed := test{q.places, c.mixed(q.drops)}
		lies, slid := mustLie(t, q)
		lies2, slid2 := mustLie(t, mixed)
		full, fell := mustFull(t, q)
		full2, fell2 := mustFull(t, mixed)
		if slid != slid2 || fell != fell2 || !slices.Equal(full, full2) {
			t.Fatal(q, mixed, slid, slid2, fell, fell2, full, full2)
		}
		if !slices.Equal(lies, lies2) {
			moved++
		}
		if len(q.drops) > q.places {
			continue
		}
		lies, slid = mustRound(t, q)
		lies2, slid2 = mustRound(t, mixed)
		if slid != slid2 || setOf(lies) != setOf(lies2) {
			t.Fatal(q, mixed, lies, slid, lies2, slid2)
		}
	}
	if moved < 1000 {
		t.Error("too few whose coppers lie elsewhere:", moved)
	}
}

// P4.10, and that the place of Over is the first one.
func TestProved(t *testing.T) {
	proved := 0
	for _, q := range tests() {
		_, fell := mustFull(t, q)
		first := -1
		for place := range q.places {
			many, e := ledge.CheckOver(q.places, q.drops, place)
			if e != api.OK || many > fell {
				t.Fatal(q, place, many, fell, e)
			}
			if many == fell && first < 0 {
				first = place
			}
		}
		place, e := ledge.Over(q.places, q.drops)
		if fell == 0 && (place != 0 || e != api.ErrLedge) || fell > 0 && (place != first || e != api.OK) {
			t.Fatal(q, place, first, e)
		}
		if place > 0 {
			proved++
		}
	}
	if proved < 1000 {
		t.Error("too few that are not proved by the place 0:", proved)
	}
}

// P4.11
func TestSorted(t *testing.T) {
	kinds := map[bool]int{}
	check := func(q test) {
		sorted := slices.Sorted(slices.Values(q.drops))
		is := true
		for i, at := range sorted {
			is = is && at <= i
		}
		kinds[is]++
		if e := ledge.CheckRow(q.places, q.drops); is != (e == api.OK) || !is && e != api.ErrLedge {
			t.Fatal(q, e)
		}
	}
	for places := 1; places <= 6; places++ {
		eachDrops(places, places, func(drops []int) { check(test{places, drops}) })
	}
	c := chance{at: 3}
	for i := range 20000 {
		places := 7 + i%2
		check(test{places, c.drops(places, places)})
	}
	if kinds[true] < 1000 || kinds[false] < 1000 {
		t.Error("too few of a kind:", kinds)
	}
}

// P4.12
func TestEarlier(t *testing.T) {
	fewer, farther := 0, 0
	for _, q := range tests() {
		_, slid := mustLie(t, q)
		_, fell := mustFull(t, q)
		for i, from := range q.drops {
			for at := range from {
				now := test{q.places, slices.Clone(q.drops)}
				now.drops[i] = at
				_, slid2 := mustLie(t, now)
				_, fell2 := mustFull(t, now)
				if fell2 > fell {
					t.Fatal(q, now, fell, fell2)
				}
				if fell2 < fell {
					fewer++
				}
				if len(q.drops) == q.places && fell == 0 {
					farther++
					if slid2 != slid+from-at {
						t.Fatal(q, now, slid, slid2)
					}
				}
			}
		}
	}
	if fewer < 1000 || farther < 200 {
		t.Error("too few of a kind:", fewer, farther)
	}
}

// P4.13
func TestSummed(t *testing.T) {
	for places := 1; places <= api.MaxLedgePlaces; places++ {
		left := map[int]int64{}          // by how many coppers
		sums := make([]int64, 1<<places) // of Ways, by the set of the places
		for coppers := range places + 1 {
			eachLie(places, coppers, func(lie []int) { sums[setOf(lie)] += mustWays(t, places, lie) })
		}
		for set, sum := range sums {
			full := members(set)
			many := mustLeave(t, places, full)
			if many != sum {
				t.Fatal(places, full, many, sum)
			}
			left[len(full)] += many
		}
		for coppers := range places + 1 {
			if many := mustCount(t, places, coppers); many != left[coppers] {
				t.Fatal(places, coppers, many, left[coppers])
			}
		}
	}
}

// P4.14
func TestCountFormula(t *testing.T) {
	for places := 1; places <= api.MaxLedgePlaces; places++ {
		for coppers := range api.MaxLedgeDrops + 1 {
			want := int64(1)
			switch {
			case coppers > places:
				want = 0
			case coppers > 0:
				want = int64(places + 1 - coppers)
				for range coppers - 1 {
					want *= int64(places + 1)
				}
			}
			if many := mustCount(t, places, coppers); many != want {
				t.Error(places, coppers, many, want)
			}
		}
	}
}

// P4.15: the last place is left free just by rows, which lie as on the ledge.
func TestWheel(t *testing.T) {
	kinds := map[bool]int{}
	for _, q := range tests() {
		if q.places == api.MaxLedgePlaces || len(q.drops) > q.places+1 {
			continue
		}
		lies, slid := mustRound(t, test{q.places + 1, q.drops})
		isFree := !slices.Contains(lies, q.places)
		kinds[isFree]++
		if e := ledge.CheckRow(q.places, q.drops); isFree != (e == api.OK) {
			t.Fatal(q, lies, e)
		}
		lies2, slid2 := mustLie(t, q)
		if isFree && (!slices.Equal(lies, lies2) || slid != slid2) {
			t.Fatal(q, lies, slid, lies2, slid2)
		}
	}
	if kinds[true] < 1000 || kinds[false] < 1000 {
		t.Error("too few of a kind:", kinds)
	}
}

// turned returns a list of places of a wheel that are farther round it.
func turned(places, far int, list []int) []int {
	var out []int
	for _, at := range list {
		out = append(out, (at+far)%places)
	}
	return out
}

// P4.15: drops that are farther leave all coppers farther.
func TestTurned(t *testing.T) {
	for _, q := range tests() {
		if len(q.drops) > q.places {
			continue
		}
		lies, slid := mustRound(t, q)
		for far := range q.places {
			lies2, slid2 := mustRound(t, test{q.places, turned(q.places, far, q.drops)})
			if !slices.Equal(lies2, turned(q.places, far, lies)) || slid2 != slid {
				t.Fatal(q, far, lies, slid, lies2, slid2)
			}
		}
	}
}

// P4.16: one more copper.
func TestNext(t *testing.T) {
	more, lost := 0, 0
	for _, q := range tests() {
		if len(q.drops) == api.MaxLedgeDrops {
			continue
		}
		lies, _ := mustLie(t, q)
		full, fell := mustFull(t, q)
		for from := range q.places {
			now := test{q.places, append(slices.Clone(q.drops), from)}
			lies2, _ := mustLie(t, now)
			full2, fell2 := mustFull(t, now)
			if !slices.Equal(lies2[:len(lies)], lies) {
				t.Fatal(now, lies, lies2)
			}
			if last := lies2[len(lies)]; last < 0 {
				lost++
				if fell2 != fell+1 || !slices.Equal(full, full2) {
					t.Fatal(now, full, fell, full2, fell2)
				}
			} else {
				more++
				if fell2 != fell || slices.Contains(full, last) || setOf(full2) != setOf(full)|1<<last {
					t.Fatal(now, full, fell, full2, fell2)
				}
			}
		}
	}
	if more < 1000 || lost < 1000 {
		t.Error("too few of a kind:", more, lost)
	}
}

// P4.16: it may be dropped just where a place from there on is free.
func TestMayNext(t *testing.T) {
	for _, q := range rows() {
		full, _ := mustFull(t, q)
		may, e := ledge.May(q.places, q.drops)
		if e != api.OK {
			t.Fatal(q, e)
		}
		for from := range q.places {
			behind := setOf(full) >> from
			isFree := behind != 1<<(q.places-from)-1
			if slices.Contains(may, from) != isFree {
				t.Fatal(q, full, may, from)
			}
		}
	}
}
