package wheel

import "pennyfall/api"

// checkNumbers returns the first error that a machine and a reading have in
// common: all that is looked at before the sums of the lists.
func checkNumbers(m api.WheelMachine) api.Errno {
	states := len(m.Next)
	if states < 1 || states > api.MaxWheelStates {
		return api.ErrMany
	}
	if len(m.Pay) != states {
		return api.ErrEqual
	}
	for _, list := range m.Next {
		if len(list) != states {
			return api.ErrEqual
		}
	}
	if !within(1, api.MaxWheelSize, m.Size) || !within(0, api.MaxWheelPay, m.Pay...) {
		return api.ErrRange
	}
	// A number above Size is out of range too, so no sum can leave int64.
	for _, list := range m.Next {
		if !within(0, m.Size, list...) {
			return api.ErrRange
		}
	}
	return api.OK
}

// within tells whether all numbers are from least to most.
func within(least, most int64, numbers ...int64) bool {
	for _, n := range numbers {
		if n < least || n > most {
			return false
		}
	}
	return true
}

// isIndex tells whether a list of so many elements has the index.
func isIndex(index, many int) bool {
	return index >= 0 && index < many
}

// total returns all numbers together.
func total(numbers ...int64) int64 {
	sum := int64(0)
	for _, n := range numbers {
		sum += n
	}
	return sum
}
