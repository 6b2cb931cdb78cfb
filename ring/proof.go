package ring

import (
	"iter"
	"maps"
	"slices"
)

// groups yields all of them, in lexicographic order.
func (b *board) groups() iter.Seq[[]int] {
	return func(yield func(group []int) bool) {
		b.grow(nil, yield)
	}
}

// grow yields all groups that begin with one, and are longer. It tells whether to
// go on.
func (b *board) grow(group []int, yield func(group []int) bool) bool {
	for key := range b.keys(func(key int) bool { return b.fits(group, key) }) {
		longer := append(group[:len(group):len(group)], key) // so that all grow apart
		if !yield(longer) || !b.grow(longer, yield) {
			return false
		}
	}
	return true
}

// fits tells whether a key is greater than all of a group, and clashes with each.
func (b *board) fits(group []int, key int) bool {
	for _, before := range group {
		if before >= key || !b.clashes.has(before, key) {
			return false
		}
	}
	return true
}

// isGroup tells whether each key of a list fits those before it.
func (b *board) isGroup(list []int) bool {
	for i, key := range list {
		if !b.fits(list[:i], key) {
			return false
		}
	}
	return true
}

// isCircle tells whether each key of a list clashes with the one before it, and the
// first one with the last one.
func (b *board) isCircle(list []int) bool {
	before := list[len(list)-1]
	for _, key := range list {
		if !b.clashes.has(before, key) {
			return false
		}
		before = key
	}
	return true
}

// circles yields the circle of each key from which one is found. The shortest of
// these is as short as a circle can be: it is found from each of its keys. No key is
// in it twice, or a part of it would be a shorter one.
func (b *board) circles() iter.Seq[[]int] {
	return func(yield func(circle []int) bool) {
		for start := range b.Keys {
			if circle := b.circle(start); len(circle) > 0 && !yield(circle) {
				return
			}
		}
	}
}

// circle hangs keys on two rings, beginning with one: those that clash with a key on
// one ring hang on the other one, the nearest ones first. Two ways from the first key
// to the first two on the same ring that clash are as long, and make a circle. It
// returns none if no two clash.
func (b *board) circle(start int) []int {
	clear(b.rings[:])
	b.rings[start] = 1
	left := maps.Clone(b.clashes)
	ways := [][]int{{start}} // to the keys that hang, and whose clashes are left
	for ; len(ways) > 0; ways = ways[1:] {
		way := ways[0]
		key := way[len(way)-1]
		for other := range left.with(key) {
			switch b.rings[other] {
			case onNone:
				b.rings[other] = 3 - b.rings[key]
				ways = append(ways, append(way[:len(way):len(way)], other))
			case b.rings[key]:
				return joined(way, wayTo(other, ways))
			}
		}
		left.drop(key)
	}
	return nil
}

// wayTo returns the one that ends with a key.
func wayTo(key int, ways [][]int) []int {
	return ways[slices.IndexFunc(ways, func(way []int) bool { return way[len(way)-1] == key })]
}

// joined returns the way there and back by another one that begins with the same key.
func joined(there, back []int) []int {
	out := slices.Clone(there)
	for _, key := range slices.Backward(back[1:]) {
		out = append(out, key)
	}
	return out
}
