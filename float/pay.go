package float

import "iter"

// count counts in how many ways each amount up to one can be paid.
func (t *till) count(most int64) {
	clear(t.ways[:])
	t.ways[0] = 1
	for _, value := range t.values {
		for amount := value; amount <= most; amount++ {
			t.ways[amount] += t.ways[amount-value]
		}
	}
}

// payments yields all change by which a float pays an amount, in lexicographic order.
func (t *till) payments(stock counts, amount int64) iter.Seq[counts] {
	return func(yield func(change counts) bool) {
		t.pay(counts{}, 0, stock, amount, yield)
	}
}

// pay yields all of payments that begin with the numbers of a change before a kind,
// which leave an amount. It tells whether to go on.
func (t *till) pay(change counts, kind int, stock counts, left int64, yield func(change counts) bool) bool {
	value := t.values[kind]
	most := min(stock[kind], left/value)
	if kind == len(t.values)-1 {
		change[kind] = most
		return most*value != left || yield(change)
	}
	for many := range most + 1 {
		change[kind] = many
		if !t.pay(change, kind+1, stock, left-many*value, yield) {
			return false
		}
	}
	return true
}
