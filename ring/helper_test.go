package ring_test

import (
	"slices"
	"testing"

	"pennyfall/api"
	"pennyfall/ring"
)

func ints(list ...int) []int { return list }

func key(out, back int64) api.RingKey { return api.RingKey{Out: out, Back: back} }

// quarrels returns those of the pairs of a list.
func quarrels(list ...int) [][2]int {
	var out [][2]int
	for pair := range slices.Chunk(list, 2) {
		out = append(out, [2]int(pair))
	}
	return out
}

// book returns one whose quarrels are the pairs of a list.
func book(keys []api.RingKey, list ...int) api.RingBook {
	return api.RingBook{Keys: keys, Quarrels: quarrels(list...)}
}

func keys(list ...api.RingKey) []api.RingKey { return list }

// apart returns so many keys that are out on days of their own.
func apart(many int) []api.RingKey {
	var out []api.RingKey
	for i := range many {
		out = append(out, key(int64(10*i), int64(10*i)))
	}
	return out
}

// together returns so many keys that are out on the same day.
func together(many int) []api.RingKey { return slices.Repeat(keys(key(4, 4)), many) }

// bookB and bookC are those of the chapter.
func bookB() api.RingBook { return book(keys(key(1, 4), key(3, 6), key(6, 8), key(2, 3)), 0, 2) }

func bookC() api.RingBook { return book(apart(5), 0, 1, 0, 4, 1, 2, 2, 3, 3, 4) }

// bookG has all seven keys in one circle, and no shorter one.
func bookG() api.RingBook { return book(apart(7), 0, 1, 0, 6, 1, 2, 2, 3, 3, 4, 4, 5, 5, 6) }

func cloned(b api.RingBook) api.RingBook {
	return api.RingBook{Keys: slices.Clone(b.Keys), Quarrels: slices.Clone(b.Quarrels)}
}

// with returns a book with one more quarrel.
func with(b api.RingBook, one, two int) api.RingBook {
	out := cloned(b)
	out.Quarrels = append(out.Quarrels, [2]int{min(one, two), max(one, two)})
	slices.SortFunc(out.Quarrels, func(a, b [2]int) int { return slices.Compare(a[:], b[:]) })
	return out
}

// changed returns a book of which all days are changed.
func changed(b api.RingBook, change func(day int64) int64) api.RingBook {
	out := cloned(b)
	for i, k := range out.Keys {
		out.Keys[i] = key(change(k.Out), change(k.Back))
	}
	return out
}

// isOut tells whether a key is out on a day.
func isOut(k api.RingKey, day int64) bool { return k.Out <= day && day <= k.Back }

// graph is of each key the set of those that clash with it.
type graph []int

// graphOf returns that of a book, by the definition.
func graphOf(b api.RingBook) graph {
	g := make(graph, len(b.Keys))
	for one, k := range b.Keys {
		for other, l := range b.Keys {
			for day := max(k.Out, l.Out); one != other && day <= k.Back; day++ {
				if isOut(k, day) && isOut(l, day) {
					g[one] |= 1 << other
				}
			}
		}
	}
	for _, q := range b.Quarrels {
		g[q[0]] |= 1 << q[1]
		g[q[1]] |= 1 << q[0]
	}
	return g
}

func (g graph) clash(one, other int) bool { return g[one]>>other&1 == 1 }

// merged returns the graph in which a key clashes with all with which it or another
// one does, and the other one is not any more.
func (g graph) merged(one, gone int) graph {
	renamed := func(key int) int {
		if key == gone {
			key = one
		}
		return renumbered(key, gone)
	}
	out := make(graph, len(g)-1)
	for a, set := range g {
		for _, b := range members(set) {
			out[renamed(a)] |= 1 << renamed(b)
		}
	}
	return out
}

// renumbered returns the number of a key when another one is not any more.
func renumbered(key, gone int) int {
	if key > gone {
		return key - 1
	}
	return key
}

// members returns the elements whose bits a number has.
func members(set int) []int {
	var out []int
	for at := 0; set>>at > 0; at++ {
		if set>>at&1 == 1 {
			out = append(out, at)
		}
	}
	return out
}

// areFree tells whether no two keys of a set clash.
func (g graph) areFree(set int) bool {
	for _, key := range members(set) {
		if g[key]&set != 0 {
			return false
		}
	}
	return true
}

// free returns all sets of keys that may be on one ring.
func (g graph) free() []int {
	var out []int
	for set := range 1 << len(g) {
		if g.areFree(set) {
			out = append(out, set)
		}
	}
	return out
}

// counts returns in how many ways all keys can be hung if there are 0, 1 and so on
// up to 8 numbers: on the last of these hang some that do not clash, and the others
// on those before it.
func (g graph) counts() []int64 {
	all, free := 1<<len(g), g.free()
	ways := make([]int64, all)
	ways[0] = 1
	out := []int64{ways[all-1]}
	for range api.MaxRingKeys {
		more := make([]int64, all)
		for set := range all {
			for _, last := range free {
				if last&set == last {
					more[set] += ways[set&^last]
				}
			}
		}
		ways = more
		out = append(out, ways[all-1])
	}
	return out
}

// fewest returns how many rings are enough: one for some keys that do not clash, and
// as many as are enough for the others.
func (g graph) fewest() int {
	all, free := 1<<len(g), g.free()
	enough := make([]int, all)
	for set := 1; set < all; set++ {
		enough[set] = len(g)
		for _, last := range free {
			if last != 0 && last&set == last {
				enough[set] = min(enough[set], 1+enough[set&^last])
			}
		}
	}
	return enough[all-1]
}

func (g graph) areRight(rings []int) bool {
	for one := range rings {
		for other := range one {
			if rings[one] == rings[other] && g.clash(one, other) {
				return false
			}
		}
	}
	return true
}

// different returns how many different numbers a list has.
func different(list []int) int {
	out := map[int]bool{}
	for _, x := range list {
		out[x] = true
	}
	return len(out)
}

// lists returns all lists of so many numbers below most, in lexicographic order.
func lists(many, most int) [][]int {
	if many == 0 {
		return [][]int{nil}
	}
	var out [][]int
	for _, list := range lists(many-1, most) {
		for x := range most {
			out = append(out, append(list[:len(list):len(list)], x))
		}
	}
	return out
}

// right returns all right rings, in lexicographic order.
func (g graph) right() [][]int {
	return slices.DeleteFunc(lists(len(g), api.MaxRingKeys), func(rings []int) bool { return !g.areRight(rings) })
}

// first returns the first right rings that begin with some, and have at most so many
// different numbers, or nil.
func (g graph) first(rings []int, most int) []int {
	if !g.areRight(rings) || different(rings) > most {
		return nil
	}
	if len(rings) == len(g) {
		return rings
	}
	for ring := range api.MaxRingKeys {
		if out := g.first(append(slices.Clone(rings), ring), most); out != nil {
			return out
		}
	}
	return nil
}

// isGroup tells whether any two keys of a list clash.
func (g graph) isGroup(list []int) bool {
	for i, one := range list {
		for _, other := range list[:i] {
			if !g.clash(one, other) {
				return false
			}
		}
	}
	return true
}

// group returns the first of the greatest groups.
func (g graph) group() []int {
	var out []int
	for set := range 1 << len(g) {
		list := members(set)
		if !g.isGroup(list) {
			continue
		}
		if len(list) > len(out) || len(list) == len(out) && slices.Compare(list, out) < 0 {
			out = list
		}
	}
	return out
}

// shortestOdd returns how many steps the shortest way has that goes from a key to
// one that clashes with it, and so on, and after an odd number of steps comes back;
// 0 if there is none. (The shortest of these is a circle.)
func (g graph) shortestOdd() int {
	for steps := 1; steps <= len(g); steps += 2 {
		for start := range g {
			at := 1 << start // where such ways of so many steps can be
			for range steps {
				next := 0
				for _, key := range members(at) {
					next |= g[key]
				}
				at = next
			}
			if at>>start&1 == 1 {
				return steps
			}
		}
	}
	return 0
}

// kind returns whether two keys are on the same ring in each of the fewest rings, in
// some or in none: they can be if as many rings are enough when they are one key, and
// need not be if as many are when they clash.
func (g graph) kind(one, two int) int {
	if g.clash(one, two) {
		return api.RingNever
	}
	clashing := slices.Clone(g)
	clashing[one] |= 1 << two
	clashing[two] |= 1 << one
	switch fewest := g.fewest(); {
	case g.merged(one, two).fewest() > fewest:
		return api.RingNever
	case clashing.fewest() > fewest:
		return api.RingAlways
	}
	return api.RingMay
}

// fullest returns the fullest day, and how many keys are out on it.
func fullest(b api.RingBook) (int64, int) {
	day, most := int64(0), 0
	for d := range int64(api.MaxRingDay + 1) {
		many := 0
		for _, k := range b.Keys {
			if isOut(k, d) {
				many++
			}
		}
		if many > most {
			day, most = d, many
		}
	}
	return day, most
}

// must returns what a function tells of a valid book.
func must[T any](t *testing.T, ask func(b api.RingBook) (T, api.Errno), b api.RingBook) T {
	t.Helper()
	out, e := ask(b)
	if e != api.OK {
		t.Fatal(b, out, e)
	}
	return out
}

// counts returns what Count tells for 0, 1 and so on up to 8 rings.
func counts(t *testing.T, b api.RingBook) []int64 {
	t.Helper()
	var out []int64
	for rings := range api.MaxRingKeys + 1 {
		many, e := ring.Count(b, rings)
		if e != api.OK {
			t.Fatal(b, rings, many, e)
		}
		out = append(out, many)
	}
	return out
}

// kinds returns what Kind tells for all pairs of keys.
func kinds(b api.RingBook) [][2]int {
	var out [][2]int
	for two := range b.Keys {
		for one := range b.Keys {
			kind, e := ring.Kind(b, one, two)
			out = append(out, [2]int{kind, int(e)})
		}
	}
	return out
}
