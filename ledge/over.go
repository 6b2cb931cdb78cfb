package ledge

// proves returns how many coppers a place proves to fall.
func proves(places int, drops []int, place int) int {
	many := place - places
	for _, from := range drops {
		if from >= place {
			many++
		}
	}
	return many
}

// best returns the first element that is worth most; the list is not empty.
func best[T any](list []T, worth func(x T) int) T {
	out := list[0]
	for _, x := range list[1:] {
		if worth(x) > worth(out) {
			out = x
		}
	}
	return out
}
