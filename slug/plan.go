package slug

import "pennyfall/api"

// plan is weighings that are all done.
type plan []pans

// planned takes over a plan, or returns the errors that CheckPlan returns, but
// for ErrSlug.
func planned(k api.SlugKnown, weighings [][]int) (plan, api.Errno) {
	if e := CheckKnown(k); e != api.OK {
		return nil, e
	}
	if len(weighings) > api.MaxSlugWeighings {
		return nil, api.ErrMany
	}
	var room [api.MaxSlugWeighings]pans
	out := room[:0:len(weighings)]
	for _, w := range weighings {
		if e := checkPans(len(k.Coppers), w); e != api.OK {
			return nil, e
		}
		var p pans
		copy(p[:], w)
		out = append(out, p)
	}
	return out, api.OK
}

// alike returns the first two cases that a plan does not tell, and whether
// there are such.
func (p plan) alike(cases []api.SlugCase) (first, second api.SlugCase, found bool) {
	for i, c := range cases {
	search:
		for _, d := range cases[i+1:] {
			for _, weighing := range p {
				if weighing.result(c) != weighing.result(d) {
					continue search
				}
			}
			return c, d, true
		}
	}
	return api.SlugCase{}, api.SlugCase{}, false
}

// told returns the cases in which a plan has these results, one for each weighing.
func (p plan) told(cases []api.SlugCase, results []int) []api.SlugCase {
	for i, weighing := range p {
		cases = where(cases, func(c api.SlugCase) bool { return weighing.result(c) == results[i] })
	}
	return cases
}
