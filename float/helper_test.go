package float_test

import (
	"slices"
	"testing"

	"pennyfall/api"
)

const most = api.MaxFloatAmount

func nums(list ...int64) []int64 { return list }

// coinsK, coinsT and coinsE are those of the chapter.
func coinsK() []int64 { return nums(1, 4, 6) }

func coinsT() []int64 { return nums(5, 8) }

func coinsE() []int64 { return nums(4, 6) }

// must returns what a function tells of valid coins.
func must[T any](t *testing.T, ask func(coins []int64) (T, api.Errno), coins []int64) T {
	t.Helper()
	out, e := ask(coins)
	if e != api.OK {
		t.Fatal(coins, out, e)
	}
	return out
}

// told returns what a function tells of valid coins and an amount.
func told[T any](t *testing.T, ask func(coins []int64, amount int64) (T, api.Errno), coins []int64, amount int64) T {
	t.Helper()
	out, e := ask(coins, amount)
	if e != api.OK {
		t.Fatal(coins, amount, out, e)
	}
	return out
}

func sum(list []int64) int64 {
	out := int64(0)
	for _, x := range list {
		out += x
	}
	return out
}

// amountOf returns the sum of all values, each multiplied by its number.
func amountOf(coins, change []int64) int64 {
	out := int64(0)
	for i, value := range coins {
		out += value * change[i]
	}
	return out
}

// divisor returns the greatest number by which all values can be divided.
func divisor(coins []int64) int64 {
	for out := coins[0]; ; out-- {
		if !slices.ContainsFunc(coins, func(value int64) bool { return value%out > 0 }) {
			return out
		}
	}
}

// last returns the value of the last kind.
func last(coins []int64) int64 { return coins[len(coins)-1] }

// endless returns a stock of which no amount needs all.
func endless(coins []int64) []int64 { return slices.Repeat(nums(most+1), len(coins)) }

// row is how many coins there are of each kind.
type row [api.MaxFloatKinds]int64

// table is what the definitions say of the amounts up to most.
type table struct {
	ways [most + 1]int64 // how many changes have each amount
	same [most + 1]int64 // how many of these have the fewest coins
	best [most + 1]row   // the first one of these, in lexicographic order
}

// add takes notice of changes of an amount, so many of which have as few coins as
// change, and none fewer, nor as few and comes before it.
func (w *table) add(amount int64, change row, ways, same int64) {
	best := &w.best[amount]
	more := sum(change[:]) - sum(best[:])
	switch {
	case w.ways[amount] == 0 || more < 0:
		*best, w.same[amount] = change, same
	case more == 0:
		w.same[amount] += same
		if slices.Compare(change[:], best[:]) < 0 {
			*best = change
		}
	}
	w.ways[amount] += ways
}

// tableOf returns a table of coins with a stock, kind by kind.
func tableOf(coins, stock []int64) *table {
	out := &table{}
	out.add(0, row{}, 1, 1)
	for kind, value := range coins {
		before := out
		out = &table{}
		for amount := range int64(most + 1) {
			for many := int64(0); many <= stock[kind] && many*value <= amount; many++ {
				left := amount - many*value
				if before.ways[left] > 0 {
					change := before.best[left]
					change[kind] = many
					out.add(amount, change, before.ways[left], before.same[left])
				}
			}
		}
	}
	return out
}

// enumerated returns a table of coins with a stock, change by change, of the amounts
// up to one.
func enumerated(coins, stock []int64, upTo int64) *table {
	out := &table{}
	var grow func(change row, kind int, amount int64)
	grow = func(change row, kind int, amount int64) {
		if kind < 0 {
			out.add(amount, change, 1, 1)
			return
		}
		for ; change[kind] <= stock[kind] && amount <= upTo; change[kind]++ {
			grow(change, kind-1, amount)
			amount += coins[kind]
		}
	}
	grow(row{}, len(coins)-1, 0)
	return out
}

// canPay tells whether there is change of an amount.
func (w *table) canPay(amount int64) bool { return w.ways[amount] > 0 }

// fewest returns how many coins the best change of an amount has.
func (w *table) fewest(amount int64) int64 { return sum(w.best[amount][:]) }

// isBad tells whether an amount is bad, by the definition.
func (w *table) isBad(coins []int64, amount int64) bool {
	taken, rest := greedy(coins, amount)
	return w.canPay(amount) && (rest > 0 || sum(taken) > w.fewest(amount))
}

// greedy takes one coin after another.
func greedy(coins []int64, amount int64) ([]int64, int64) {
	taken := make([]int64, len(coins))
	for kind, value := range slices.Backward(coins) {
		for ; amount >= value; amount -= value {
			taken[kind]++
		}
	}
	return taken, amount
}

// far is beyond all amounts that cannot be paid, unless there are some without end.
const far = 2 * api.MaxFloatCoin * api.MaxFloatCoin

// paid tells of each amount up to far whether it can be paid.
func paid(coins []int64) []bool {
	out := make([]bool, far+1)
	out[0] = true
	for amount := range int64(len(out)) {
		for _, value := range coins {
			if amount >= value && out[amount-value] {
				out[amount] = true
			}
		}
	}
	return out
}

// areRight tells whether heights are, by the definition.
func areRight(coins, heights []int64) bool {
	for amount, height := range heights {
		for _, value := range coins {
			before := int64(amount) - value
			if before >= 0 && height > heights[before]+1 {
				return false
			}
		}
	}
	return heights[0] == 0
}
