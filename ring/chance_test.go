package ring_test

import (
	"slices"

	"pennyfall/api"
	"pennyfall/ring"
)

// chance is numbers that seem to be chance, and are the same in each run.
type chance struct{ at uint64 }

func (c *chance) below(n int) int {
	c.at = c.at*6364136223846793005 + 1442695040888963407
	return int((c.at >> 33) % uint64(n))
}

func (c *chance) from(least, most int64) int64 {
	return least + int64(c.below(int(most-least)+1))
}

// oneOf returns some element.
func oneOf[T any](c *chance, list []T) T { return list[c.below(len(list))] }

// pairs returns those of so many keys.
func pairs(keys int) [][2]int {
	var out [][2]int
	for one := range keys {
		for other := one + 1; other < keys; other++ {
			out = append(out, [2]int{one, other})
		}
	}
	return out
}

// chosen returns the elements whose bits a number has.
func chosen[T any](list []T, set int) []T {
	var out []T
	for _, at := range members(set) {
		out = append(out, list[at])
	}
	return out
}

// some returns so many elements, in their order, or all of them.
func some[T any](c *chance, list []T, many int) []T {
	list = slices.Clone(list)
	for len(list) > many {
		at := c.below(len(list))
		list = slices.Delete(list, at, at+1)
	}
	return list
}

// spans returns all keys on so many days.
func spans(days int64) []api.RingKey {
	var out []api.RingKey
	for begin := range days {
		for end := begin; end < days; end++ {
			out = append(out, key(begin, end))
		}
	}
	return out
}

// small returns all books of up to three keys on three days.
func small() []api.RingBook {
	var out []api.RingBook
	all := spans(3)
	for many := 1; many <= 3; many++ {
		for _, list := range lists(many, len(all)) {
			var some []api.RingKey
			for _, at := range list {
				some = append(some, all[at])
			}
			for set := range 1 << len(pairs(many)) {
				out = append(out, api.RingBook{Keys: some, Quarrels: chosen(pairs(many), set)})
			}
		}
	}
	return out
}

// quarrelling returns books of four and five keys that are never out on the same
// day, with all quarrels that there can be.
func quarrelling() []api.RingBook {
	var out []api.RingBook
	for many := 4; many <= 5; many++ {
		for set := range 1 << len(pairs(many)) {
			out = append(out, api.RingBook{Keys: apart(many), Quarrels: chosen(pairs(many), set)})
		}
	}
	return out
}

// key returns one that is out for at most so many days, of so many.
func (c *chance) key(most, days int64) api.RingKey {
	begin := c.from(0, days-1)
	return key(begin, min(begin+c.from(0, most-1), days-1))
}

// book returns one of so many keys on so many days, each out for at most most days.
func (c *chance) book(many, quarrels int, most, days int64) api.RingBook {
	var out api.RingBook
	for range many {
		out.Keys = append(out.Keys, c.key(most, days))
	}
	out.Quarrels = some(c, pairs(many), quarrels)
	return out
}

// circled returns a book of which some keys quarrel in a circle, all of them with so
// few others that few rings are enough.
func (c *chance) circled(many, long int) api.RingBook {
	out := api.RingBook{Keys: apart(many)}
	list := some(c, members(1<<many-1), long)
	for i := range list {
		at := c.below(i + 1)
		list[i], list[at] = list[at], list[i]
	}
	for i, key := range list {
		out = with(out, key, list[(i+1)%len(list)])
	}
	for range c.below(4) {
		pair := oneOf(c, pairs(many))
		if len(out.Quarrels) < api.MaxRingQuarrels && ring.Pair(out, pair[0], pair[1]) == api.OK {
			out = with(out, pair[0], pair[1])
		}
	}
	return out
}

// great returns books of chance, up to the limits.
func great() []api.RingBook {
	c := chance{at: 1}
	out := []api.RingBook{
		bookB(), bookC(), bookG(), book(apart(8)), book(together(8)), book(keys(key(0, 1000), key(1000, 1000))),
	}
	for i := range 900 {
		days := []int64{4, 12, 60, 1001}[i%4]
		most := max(1, days/[]int64{1, 3, 8}[i/4%3])
		out = append(out, c.book(1+c.below(api.MaxRingKeys), c.below(api.MaxRingQuarrels+1), most, days))
	}
	for i := range 300 { // no quarrels
		out = append(out, c.book(1+c.below(api.MaxRingKeys), 0, c.from(1, 9), []int64{9, 30, 1001}[i%3]))
	}
	for range 200 { // nearly all keys clash
		var list []api.RingKey
		for range 6 + c.below(3) {
			begin := c.from(0, 560)
			list = append(list, key(begin, c.from(max(begin, 500), api.MaxRingDay)))
		}
		out = append(out, api.RingBook{Keys: list, Quarrels: some(&c, pairs(len(list)), c.below(5))})
	}
	for i := range 400 { // long circles
		long := 5 + 2*(i%2)
		out = append(out, c.circled(long+c.below(api.MaxRingKeys+1-long), long))
	}
	return out
}

func all() []api.RingBook { return slices.Concat(small(), quarrelling(), great()) }
