package slug

import "pennyfall/api"

// What a copper may be: good alone, or either kind of slug besides. Between
// them lie the two kinds themselves.
const (
	good   = 0
	either = api.SlugLight + api.SlugHeavy
)

// noSlug returns the case that there is no slug.
func noSlug() api.SlugCase { return api.SlugCase{Copper: -1} }

// casesOf returns the cases of what is known, in their order.
func casesOf(k api.SlugKnown) []api.SlugCase {
	var out []api.SlugCase
	for copper, may := range k.Coppers {
		for _, kind := range [...]int{api.SlugLight, api.SlugHeavy} {
			if may&kind != 0 {
				out = append(out, api.SlugCase{Copper: copper, Kind: kind})
			}
		}
	}
	if k.None {
		out = append(out, noSlug())
	}
	return out
}

// knownBy returns what is known of so many coppers if just these cases are left.
func knownBy(coppers int, cases []api.SlugCase) api.SlugKnown {
	out := api.SlugKnown{Coppers: make([]int, coppers)}
	for _, c := range cases {
		if c == noSlug() {
			out.None = true
		} else {
			out.Coppers[c.Copper] += c.Kind
		}
	}
	return out
}

// where returns those of the cases that are wanted, in their order.
func where(cases []api.SlugCase, wanted func(c api.SlugCase) bool) []api.SlugCase {
	var out []api.SlugCase
	for _, c := range cases {
		if wanted(c) {
			out = append(out, c)
		}
	}
	return out
}

// pans is in which pan each copper lies; those that there are not stay out.
type pans [api.MaxSlugCoppers]int

// result returns the result of a weighing in a case: the pan with a heavier
// slug sinks, and the other one if the slug is lighter.
func (p pans) result(c api.SlugCase) int {
	switch c.Kind {
	case api.SlugLight:
		return -p[c.Copper]
	case api.SlugHeavy:
		return p[c.Copper]
	}
	return 0
}

// balance is one with what is known of the coppers, and where they lie.
type balance struct {
	api.SlugKnown
	pans
}

// weighed puts coppers on a balance, or returns the error of CheckWeighing.
func weighed(k api.SlugKnown, w []int) (*balance, api.Errno) {
	if e := CheckWeighing(k, w); e != api.OK {
		return nil, e
	}
	b := &balance{SlugKnown: k}
	copy(b.pans[:], w)
	return b, api.OK
}

// with returns the cases in which the weighing has a result.
func (b *balance) with(result int) []api.SlugCase {
	return where(casesOf(b.SlugKnown), func(c api.SlugCase) bool { return b.result(c) == result })
}

// load returns how many coppers of each kind lie in which pan.
func (b *balance) load() load {
	var out load
	for copper, may := range b.Coppers {
		switch b.pans[copper] {
		case api.SlugLeft:
			out.left[may]++
		case api.SlugRight:
			out.right[may]++
		}
	}
	return out
}

// lay empties the pans, and puts in the first coppers of each kind, as many as
// a load says; it returns the weighing.
func (b *balance) lay(l load) []int {
	clear(b.pans[:])
	for copper, may := range b.Coppers {
		switch {
		case l.left[may] > 0:
			l.left[may]--
			b.pans[copper] = api.SlugLeft
		case l.right[may] > 0:
			l.right[may]--
			b.pans[copper] = api.SlugRight
		}
	}
	out := make([]int, len(b.Coppers))
	copy(out, b.pans[:])
	return out
}
