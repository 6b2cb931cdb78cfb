package wheel

import "pennyfall/api"

// reduced returns num by den in least terms; den is above 0.
func reduced(num, den int64) api.Ratio {
	g := divisor(num, den)
	return api.Ratio{Num: num / g, Den: den / g}
}

// divisor returns the greatest number that divides all numbers; 0 if all are 0.
func divisor(numbers ...int64) int64 {
	g := int64(0)
	for _, n := range numbers {
		for n != 0 {
			g, n = n, g%n
		}
	}
	if g < 0 {
		return -g
	}
	return g
}

// isLess tells whether a is less than b. A long-run pay is the quotient of
// small numbers, so that the products do not leave int64.
func isLess(a, b api.Ratio) bool {
	return a.Num*b.Den < b.Num*a.Den
}

// isGreater tells whether a is greater than b.
func isGreater(a, b api.Ratio) bool {
	return isLess(b, a)
}

// best returns the first element than which no other one is better; the list is not empty.
func best[T any](list []T, better func(a, b T) bool) T {
	out := list[0]
	for _, x := range list[1:] {
		if better(x, out) {
			out = x
		}
	}
	return out
}
