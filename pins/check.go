package pins

import "pennyfall/api"

// within tells whether all numbers are from least to most.
func within[T int | int64](least, most T, numbers ...T) bool {
	for _, n := range numbers {
		if n < least || n > most {
			return false
		}
	}
	return true
}

// isLevel tells whether a number is a level.
func isLevel(level int) bool {
	return within(-api.MaxPinsLevel, api.MaxPinsLevel, level)
}

// isSlot tells whether a valid board has the slot.
func isSlot(b api.PinsBoard, slot int) bool {
	return within(0, len(b.Pins), slot)
}

// checkPromise returns the error of CheckReadings, and then that of a promise.
func checkPromise(b api.PinsBoard, r api.PinsReadings, promise api.Ratio) api.Errno {
	if e := CheckReadings(b, r); e != api.OK {
		return e
	}
	if !within(0, api.MaxPinsPromise, promise.Num) || !within(1, api.MaxPinsPromise, promise.Den) {
		return api.ErrRange
	}
	return api.OK
}
