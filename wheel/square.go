package wheel

import "pennyfall/api"

// row is the numbers of an equation, one for each unknown.
type row [api.MaxWheelStates]int64

// square is as many equations as there are unknowns.
type square [api.MaxWheelStates]row

// newSquare returns equations each of which says what one unknown is, so that
// those beyond the states of a machine change nothing.
func newSquare() square {
	var a square
	for i := range a {
		a[i][i] = 1
	}
	return a
}

// solve returns the unknowns for which each equation has its sum, all by the
// number returned behind them, by the rule of Cramer. Numbers are at most
// MaxWheelSize, and sums MaxWheelSize*MaxWheelPay: so whatever a determinant
// adds up is below 2^32.
func (a square) solve(sums row) (row, int64) {
	var out row
	for column := range a {
		changed := a
		for i, sum := range sums {
			changed[i][column] = sum
		}
		out[column] = changed.determinant(0, states{})
	}
	return out, a.determinant(0, states{})
}

// determinant returns the determinant of the rows from top on, without the
// columns that are taken; as many are taken as there are rows before top.
func (a *square) determinant(top int, taken states) int64 {
	if top == len(a) {
		return 1
	}
	sum, sign := int64(0), int64(1)
	for column, number := range a[top] {
		if taken[column] {
			continue
		}
		if number != 0 {
			without := taken
			without[column] = true
			sum += sign * number * a.determinant(top+1, without)
		}
		sign = -sign
	}
	return sum
}
