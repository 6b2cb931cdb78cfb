package pins

import "pennyfall/api"

// reduced returns num by den in least terms; num is not below 0, and den above it.
func reduced(num, den int64) api.Ratio {
	a, b := num, den
	for b != 0 {
		a, b = b, a%b
	}
	return api.Ratio{Num: num / a, Den: den / a}
}

// best returns the first element than which no other one is better; the list is not empty.
func best[T any](list []T, better func(a, b T) bool) T {
	out := list[0]
	for _, x := range list[1:] {
		if better(x, out) {
			out = x
		}
	}
	return out
}
