package float_test

import (
	"math"
	"reflect"
	"slices"
	"sync"
	"testing"

	"pennyfall/api"
	"pennyfall/float"
)

// asked is the arguments of all functions.
type asked struct {
	coins, change, heights, stock []int64
	amount                        int64
}

// answer is what a function returns.
type answer struct {
	List      []int64
	One, More int64
	Error     api.Errno
}

func (a answer) isZero() bool { return len(a.List) == 0 && a.One == 0 && a.More == 0 }

// number is the answer of a function that returns one, list that of one that returns
// a list.
func number(one int64, e api.Errno) answer { return answer{One: one, Error: e} }

func list(all []int64, e api.Errno) answer { return answer{List: append(nums(), all...), Error: e} }

func (q asked) answers() []answer {
	amount, many, e := float.CheckChange(q.coins, q.change)
	taken, rest, f := float.Greedy(q.coins, q.amount)
	return []answer{
		number(0, float.CheckCoins(q.coins)),
		{One: amount, More: many, Error: e},
		number(float.Fewest(q.coins, q.amount)),
		list(float.Change(q.coins, q.amount)),
		number(0, float.CheckHeights(q.coins, q.heights)),
		list(float.Heights(q.coins, q.amount)),
		{List: append(nums(), taken...), One: rest, Error: f},
		number(0, float.CheckBad(q.coins, q.amount)),
		number(float.Bad(q.coins)),
		list(float.Rests(q.coins)),
		number(float.Greatest(q.coins)),
		number(float.Many(q.coins)),
		number(float.Ways(q.coins, q.amount)),
		list(float.Pay(q.coins, q.stock, q.amount)),
	}
}

func equal(a, b []answer) bool { return reflect.DeepEqual(a, b) }

// valid returns arguments that are valid, of coins.
func (c *chance) valid(coins []int64) asked {
	out := asked{coins: slices.Clone(coins), stock: c.stock(coins), amount: c.from(0, most)}
	out.change = c.stock(coins)
	out.heights, _ = float.Heights(coins, c.from(0, most))
	return out
}

// spoiled returns a list of which an element, or the end, may be another one.
func (c *chance) spoiled(list []int64, x int64) []int64 {
	list = slices.Clone(list)
	switch c.below(8) {
	case 0:
		return append(list[:c.below(len(list)+1)], slices.Repeat(nums(x), c.below(9))...)
	case 1:
		if len(list) > 0 {
			list[c.below(len(list))] = x
		}
	}
	return list
}

// invalid changes arguments that are valid in several ways.
func (c *chance) invalid(q asked) asked {
	extreme := nums(math.MinInt64, -51, -1, 0, 1, 2, 4, 7, 20, 21, 50, 51, 299, 300, 301, 1000, 1001, math.MaxInt64)
	number := func() int64 { return oneOf(c, extreme) }
	if c.below(4) == 0 {
		q.amount = number()
	}
	q.change, q.heights, q.stock = c.spoiled(q.change, number()), c.spoiled(q.heights, number()), c.spoiled(q.stock, number())
	if c.below(2) == 0 {
		q.coins = c.spoiled(q.coins, number())
	}
	if c.below(20) == 0 {
		q.heights = slices.Repeat(nums(number()), 300+c.below(3))
	}
	return q
}

// P1 and R2: whatever the arguments are, all functions end and do not panic; with
// an error all other results are zero values.
func TestAnyArguments(t *testing.T) {
	c, failed := chance{at: 19}, map[api.Errno]int{}
	for _, coins := range append(all(), all()...) {
		q := c.invalid(c.valid(coins))
		for i, answer := range q.answers() {
			failed[answer.Error]++
			if answer.Error != api.OK && !answer.isZero() {
				t.Fatal(q, i, answer)
			}
		}
	}
	for _, e := range []api.Errno{
		api.OK, api.ErrArg, api.ErrRange, api.ErrOver, api.ErrNone, api.ErrMany, api.ErrSum, api.ErrEqual, api.ErrRule,
	} {
		if failed[e] < 50 {
			t.Error("too few with an error:", e, failed[e])
		}
	}
	if len(failed) != 9 {
		t.Error("other errors than those of the chapter:", failed)
	}
}

// R3: a nil list is an empty one.
func TestNilAndEmpty(t *testing.T) {
	for _, coins := range append(all(), nil) {
		nils := asked{coins: coins}
		empties := asked{coins: append(nums(), coins...), change: nums(), heights: nums(), stock: nums()}
		if !equal(nils.answers(), empties.answers()) {
			t.Fatal(coins, nils.answers(), empties.answers())
		}
	}
}

func (q asked) cloned() asked {
	return asked{slices.Clone(q.coins), slices.Clone(q.change), slices.Clone(q.heights), slices.Clone(q.stock), q.amount}
}

func (q asked) same(r asked) bool {
	return slices.Equal(q.coins, r.coins) && slices.Equal(q.change, r.change) &&
		slices.Equal(q.heights, r.heights) && slices.Equal(q.stock, r.stock)
}

// roomy returns a list with two elements of room behind its end.
func roomy(list []int64) []int64 { return append(slices.Clone(list), 77, 77)[:len(list)] }

func isRoomy(list []int64) bool { return slices.Equal(list[len(list):len(list)+2], nums(77, 77)) }

// R4: no argument is changed, not even behind the end of a list.
func TestArgumentsStay(t *testing.T) {
	c := chance{at: 20}
	for _, coins := range all() {
		q := c.valid(coins)
		before := q.cloned()
		q.coins, q.change, q.heights, q.stock = roomy(q.coins), roomy(q.change), roomy(q.heights), roomy(q.stock)
		q.answers()
		if !isRoomy(q.coins) || !isRoomy(q.change) || !isRoomy(q.heights) || !isRoomy(q.stock) || !q.same(before) {
			t.Fatal(before, q)
		}
	}
}

// spoil changes all elements of a list, and those behind its end.
func spoil(list []int64) {
	list = list[:cap(list)]
	for i := range list {
		list[i] = 99
	}
}

// R4 and R10: a result that is changed changes no other one, and no argument.
func TestResultsAreApart(t *testing.T) {
	c := chance{at: 21}
	for _, coins := range all() {
		q := c.valid(coins)
		before, first := q.cloned(), q.answers()
		change, _ := float.Change(q.coins, q.amount)
		heights, _ := float.Heights(q.coins, q.amount)
		taken, _, _ := float.Greedy(q.coins, q.amount)
		rests, _ := float.Rests(q.coins)
		pay, _ := float.Pay(q.coins, q.stock, q.amount)
		for _, list := range [][]int64{change, heights, taken, rests, pay} {
			spoil(list)
		}
		if !q.same(before) || !equal(q.answers(), first) {
			t.Fatal(before, q)
		}
	}
}

// R9 and R10: equal calls return equal results, in whatever order and at once.
func TestAgain(t *testing.T) {
	c := chance{at: 22}
	var list []asked
	var want [][]answer
	for i, coins := range all() {
		if i%2 == 0 {
			q := c.valid(coins)
			list, want = append(list, q), append(want, q.answers())
		}
	}
	var wait sync.WaitGroup
	for from := range 8 {
		wait.Go(func() {
			for k := range list {
				i := (k*7 + from*13) % len(list)
				if got := list[i].answers(); !equal(got, want[i]) {
					t.Error(list[i], got, want[i])
				}
			}
		})
	}
	wait.Wait()
}
