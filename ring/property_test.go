package ring_test

import (
	"slices"
	"testing"

	"pennyfall/api"
	"pennyfall/ring"
)

// right returns right rings of chance. For each key some ring is free, as no other
// seven keys are on eight rings.
func (c *chance) right(g graph) []int {
	var rings []int
	for range g {
		var free []int
		for ring := range api.MaxRingKeys {
			if longer := append(rings[:len(rings):len(rings)], ring); g.areRight(longer) {
				free = append(free, ring)
			}
		}
		rings = append(rings, oneOf(c, free[:1+c.below(len(free))]))
	}
	return rings
}

// P8.9: right rings of chance, and all groups.
func TestProved(t *testing.T) {
	c := chance{at: 4}
	for _, b := range all() {
		g := graphOf(b)
		fewest := must(t, ring.Fewest, b)
		_, none := ring.Circle(b)
		for range 5 {
			rings := c.right(g)
			many, e := ring.CheckRings(b, rings)
			if e != api.OK || many < fewest || none == api.OK && many < 3 {
				t.Fatal(b, rings, many, e, fewest, none)
			}
			for set := 1; set < 1<<len(g); set++ {
				if group := members(set); ring.CheckGroup(b, group) == api.OK && many < len(group) {
					t.Fatal(b, rings, many, group)
				}
			}
		}
	}
}

// P8.10: there are no quarrels.
func TestDays(t *testing.T) {
	for _, b := range all() {
		b = api.RingBook{Keys: b.Keys}
		fewest, group := must(t, ring.Fewest, b), must(t, ring.Group, b)
		if _, many, e := ring.Day(b); many != fewest || many != len(group) || e != api.OK {
			t.Fatal(b, many, e, fewest, group)
		}
	}
}

// P8.11: either two rings are enough, or there is a circle.
func TestEither(t *testing.T) {
	for _, b := range all() {
		fewest := must(t, ring.Fewest, b)
		if circle, e := ring.Circle(b); (fewest <= 2) != (e == api.ErrNone) || e == api.ErrNone != (len(circle) == 0) {
			t.Fatal(b, fewest, circle, e)
		}
	}
}

// P8.12: more rings.
func TestCounted(t *testing.T) {
	for _, b := range all() {
		fewest := must(t, ring.Fewest, b)
		many := counts(t, b)
		for rings, n := range many {
			if (n == 0) != (rings < fewest) {
				t.Fatal(b, rings, n, fewest)
			}
			if rings > 0 && n <= many[rings-1] && n > 0 {
				t.Fatal(b, rings, many)
			}
		}
	}
}

// P8.13: two keys that do not clash are on the same ring, or not.
func TestParted(t *testing.T) {
	c, tried := chance{at: 5}, 0
	for _, b := range all() {
		g := graphOf(b)
		p := some(&c, members(1<<len(g)-1), 2)
		if len(p) < 2 || g.clash(p[0], p[1]) || len(b.Quarrels) == api.MaxRingQuarrels {
			continue
		}
		tried++
		clashing := with(b, p[0], p[1])
		both, parted, same := counts(t, b), counts(t, clashing), g.merged(p[0], p[1]).counts()
		for rings := range both {
			if both[rings] != parted[rings]+same[rings] {
				t.Fatal(b, p, both, parted, same)
			}
		}
		for range 9 {
			rings := c.right(g)
			if _, e := ring.CheckRings(clashing, rings); (e == api.OK) != (rings[p[0]] != rings[p[1]]) {
				t.Fatal(b, p, rings, e)
			}
		}
	}
	if tried < 1000 {
		t.Error("too few pairs:", tried)
	}
}

// P8.14: one more quarrel.
func TestMoreQuarrels(t *testing.T) {
	found := [2]int{}
	for _, b := range all() {
		fewest := must(t, ring.Fewest, b)
		for _, p := range pairs(len(b.Keys)) {
			if len(b.Quarrels) == api.MaxRingQuarrels || slices.Contains(b.Quarrels, p) {
				continue
			}
			more := must(t, ring.Fewest, with(b, p[0], p[1])) - fewest
			if more < 0 || more > 1 {
				t.Fatal(b, p, fewest, more)
			}
			found[more]++
		}
	}
	if slices.Min(found[:]) < 1000 {
		t.Error("too few of a kind:", found)
	}
}

// P8.14: one more key, that quarrels with some.
func TestMoreKeys(t *testing.T) {
	c, found := chance{at: 6}, [2]int{}
	for _, b := range all() {
		if len(b.Keys) == api.MaxRingKeys {
			continue
		}
		_, last := fullest(b)
		far := cloned(b)
		far.Keys = append(far.Keys, c.key(int64(1+20*last), 60))
		for other := range b.Keys {
			if c.below(2) == 0 && len(far.Quarrels) < api.MaxRingQuarrels {
				far = with(far, other, len(b.Keys))
			}
		}
		fewest, many := must(t, ring.Fewest, b), must(t, ring.Fewest, far)
		if many < fewest || many > fewest+1 {
			t.Fatal(b, far, fewest, many)
		}
		found[many-fewest]++
	}
	if slices.Min(found[:]) < 500 {
		t.Error("too few of a kind:", found)
	}
}

// lastDay returns that on which a key comes back.
func lastDay(b api.RingBook) int64 {
	out := int64(0)
	for _, k := range b.Keys {
		out = max(out, k.Back)
	}
	return out
}

// both returns two books as one, the days of the other one behind those of the first
// one.
func both(one, other api.RingBook) api.RingBook {
	out := cloned(one)
	by := lastDay(one) + 1
	out.Keys = append(out.Keys, changed(other, func(day int64) int64 { return day + by }).Keys...)
	for _, q := range other.Quarrels {
		out.Quarrels = append(out.Quarrels, [2]int{q[0] + len(one.Keys), q[1] + len(one.Keys)})
	}
	return out
}

// P8.15: two books that do not clash.
func TestApart(t *testing.T) {
	c, tried, list := chance{at: 7}, 0, all()
	for _, one := range list {
		other := oneOf(&c, list)
		far := both(one, other)
		if ring.CheckBook(far) != api.OK { // it is beyond the limits
			continue
		}
		tried++
		want := max(must(t, ring.Fewest, one), must(t, ring.Fewest, other))
		if many := must(t, ring.Fewest, far); many != want {
			t.Fatal(one, other, many, want)
		}
		some, more := counts(t, one), counts(t, other)
		for rings, many := range counts(t, far) {
			if many != some[rings]*more[rings] {
				t.Fatal(one, other, rings, many, some, more)
			}
		}
	}
	if tried < 2000 {
		t.Error("too few within the limits:", tried)
	}
}

// P8.16: all days are as many times as late, and as many days later.
func TestStretched(t *testing.T) {
	c, tried := chance{at: 8}, 0
	for _, b := range all() {
		by, later := c.from(1, 9), c.from(0, 99)
		stretch := func(day int64) int64 { return day*by + later }
		far := changed(b, stretch)
		if ring.CheckBook(far) != api.OK { // it is beyond the limits
			continue
		}
		tried++
		q := c.valid(b)
		r := q.cloned()
		r.b = far
		here, there := q.answers(), r.answers()
		here[whichDay].Day = stretch(here[whichDay].Day)
		if !equal(here, there) {
			t.Fatal(b, far, here, there)
		}
	}
	if tried < 2000 {
		t.Error("too few within the limits:", tried)
	}
}
