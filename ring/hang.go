package ring

import (
	"iter"
	"slices"

	"pennyfall/api"
)

// onNone is the ring of a key that does not hang.
const onNone = 0

// rings is the ring of each key. They are counted from 1 on, so that the rings of a
// board at which no key hangs are all onNone.
type rings [api.MaxRingKeys]int

// ringsOf returns those of a list, which counts them from 0 on.
func ringsOf(list []int) rings {
	var out rings
	for key, ring := range list {
		out[key] = ring + 1
	}
	return out
}

// list returns the rings of so many keys, counted from 0 on.
func (r rings) list(keys int) []int {
	out := make([]int, keys)
	copy(out, r[:])
	for key := range out {
		out[key]--
	}
	return out
}

func (r rings) areNone() bool { return r == rings{} }

// many returns on how many rings keys hang.
func (r rings) many() int {
	many := 0
	for ring := range api.MaxRingKeys {
		if slices.Contains(r[:], ring+1) {
			many++
		}
	}
	return many
}

// named returns in how many ways so many rings can be called by different numbers,
// if there are so many numbers.
func named(rings, numbers int) int64 {
	out := int64(1)
	for ring := range rings {
		out *= int64(numbers - ring)
	}
	return out
}

// areRight tells whether no two keys that clash are on the same ring.
func (b *board) areRight(r rings) bool {
	for p := range b.clashes {
		if r[p.one] == r[p.other] {
			return false
		}
	}
	return true
}

// hangings yields right rings of at most so many, in lexicographic order. Of those
// that differ only by what each ring is called, it yields the first ones.
func (b *board) hangings(most int) iter.Seq[rings] {
	return func(yield func(r rings) bool) {
		clear(b.rings[:])
		b.hang(0, most, yield)
	}
}

// hang yields all of hangings that begin with the rings of the keys that hang now:
// those before key. It tells whether to go on.
func (b *board) hang(key, most int, yield func(r rings) bool) bool {
	if key == len(b.Keys) {
		return yield(b.rings)
	}
	unused := slices.Max(b.rings[:]) + 1
search:
	for ring := 1; ring <= min(unused, most); ring++ {
		for other := range b.clashes.with(key) {
			if b.rings[other] == ring {
				continue search
			}
		}
		b.rings[key] = ring
		if !b.hang(key+1, most, yield) {
			return false
		}
		b.rings[key] = onNone
	}
	return true
}

// first returns the first right rings of at most so many; they are none if there
// are no such rings.
func (b *board) first(most int) rings {
	for r := range b.hangings(most) {
		return r
	}
	return rings{}
}

// fewest returns the first ones of the fewest rings. There are some, as each key can
// hang on a ring of its own.
func (b *board) fewest() rings {
	for most := 1; ; most++ {
		if r := b.first(most); !r.areNone() {
			return r
		}
	}
}

// count returns how many right rings have numbers of so many.
func (b *board) count(numbers int) int64 {
	out := int64(0)
	for r := range b.hangings(numbers) {
		out += named(r.many(), numbers)
	}
	return out
}

// kind returns whether two keys are on the same ring in each of the fewest rings, in
// some or in none.
func (b *board) kind(one, two int) int {
	var together, apart bool
	for r := range b.hangings(b.fewest().many()) {
		if r[one] == r[two] {
			together = true
		} else {
			apart = true
		}
	}
	switch {
	case !together:
		return api.RingNever
	case !apart:
		return api.RingAlways
	}
	return api.RingMay
}
