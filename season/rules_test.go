package season_test

import (
	"math"
	"reflect"
	"slices"
	"strings"
	"sync"
	"testing"

	"pennyfall/api"
	"pennyfall/season"
)

// asked is the arguments of all functions.
type asked struct {
	s, other api.Season
	e        api.SeasonEntry
	machine  int
	marks    []int
	file     string
}

// answer is what a function returns.
type answer struct {
	Season api.Season
	State  api.SeasonState
	List   []int
	Many   int64
	Text   string
	Error  api.Errno
}

func (a answer) isZero() bool {
	return len(a.Season.Entries) == 0 && equalStates(a.State, api.SeasonState{}) && len(a.List) == 0 &&
		a.Many == 0 && a.Text == ""
}

// failed is the answer of a function that returns just an error, made that of one that
// returns a season, list that of one that returns a list.
func failed(e api.Errno) answer { return answer{Error: e} }

func made(s api.Season, e api.Errno) answer {
	return answer{Season: book(append([]api.SeasonEntry{}, s.Entries...)...), Error: e}
}

func list(all []int, e api.Errno) answer { return answer{List: append(ints(), all...), Error: e} }

func (q asked) answers() []answer {
	replay, e := season.Replay(q.s, q.machine)
	replay.Refused = append(ints(), replay.Refused...)
	takings, f := season.Takings(q.s)
	file, g := season.File(q.s)
	return []answer{
		failed(season.CheckEntry(q.e)),
		failed(season.CheckSeason(q.s)),
		made(season.Put(q.s, q.e)),
		made(season.Join(q.s, q.other)),
		list(season.Marks(q.s)),
		list(season.Gaps(q.s, q.machine)),
		made(season.Since(q.s, q.marks)),
		{State: replay, Error: e},
		{Many: takings, Error: f},
		{Text: file, Error: g},
		made(season.Load(q.file)),
	}
}

func equal(a, b []answer) bool { return reflect.DeepEqual(a, b) }

// valid returns arguments that are valid, with a season.
func (c *chance) valid(s api.Season) asked {
	q := asked{s: cloned(s), other: c.part(s), e: c.next(s), machine: c.from(0, api.MaxSeasonMachine)}
	if len(s.Entries) > 0 && c.below(2) == 0 {
		q.s, q.e, q.machine = c.part(s), oneOf(c, s.Entries), s.Entries[0].Machine
	}
	q.marks, q.file = c.marks(q.s), fileOf(s)
	return q
}

// invalid changes arguments that are valid in several ways.
func (c *chance) invalid(q asked) asked {
	extreme := ints(math.MinInt, -1, 0, 1, 4, 5, 30, 31, 100, 101, math.MaxInt)
	q.s, q.other = c.wrong(q.s), c.wrong(c.changed(q.other))
	q.e = c.wrong(book(q.e, q.e)).Entries[0]
	if c.below(3) == 0 {
		q.machine = oneOf(c, extreme)
	}
	switch c.below(4) {
	case 0:
		q.marks = append(q.marks[:c.below(6)], q.marks[:c.below(6)]...)
	case 1:
		q.marks[c.below(5)] = oneOf(c, extreme)
	}
	q.file = c.text(q.other)
	if len(q.file) > 0 && c.below(4) == 0 {
		q.file = strings.Repeat(q.file, c.from(0, 3))
	}
	return q
}

// P1 and R2: whatever the arguments are, all functions end and do not panic; with
// an error all other results are zero values.
func TestAnyArguments(t *testing.T) {
	c, met := chance{at: 14}, map[api.Errno]int{}
	for _, s := range seasons() {
		q := c.invalid(c.valid(s))
		for i, answer := range q.answers() {
			met[answer.Error]++
			if answer.Error != api.OK && !answer.isZero() {
				t.Fatal(q, i, answer)
			}
		}
	}
	for _, e := range []api.Errno{
		api.OK, api.ErrArg, api.ErrRange, api.ErrMany, api.ErrLong, api.ErrForm, api.ErrEqual, api.ErrRule,
	} {
		if met[e] < 50 {
			t.Error("too few with an error:", e, met[e])
		}
	}
	if len(met) != 8 {
		t.Error("other errors than those of the chapter:", met)
	}
}

// R3: a nil list is an empty one.
func TestNilAndEmpty(t *testing.T) {
	empty := book([]api.SeasonEntry{}...)
	for _, s := range append(allWith(2), seasonS(), seasonT(), seasonJ()) {
		for _, e := range append(slices.Clone(s.Entries), entry(0, 1, coin, 1), entry(0, 9, coin, 0)) {
			nils, empties := asked{s: s, e: e}, asked{s: s, other: empty, e: e, marks: ints()}
			if len(s.Entries) == 0 {
				nils.s, empties.s = api.Season{}, empty
			}
			if !equal(nils.answers(), empties.answers()) {
				t.Fatal(s, e, nils.answers(), empties.answers())
			}
			nils.s, nils.other, empties.s, empties.other = nils.other, nils.s, empties.other, empties.s
			if !equal(nils.answers(), empties.answers()) {
				t.Fatal(s, e, nils.answers(), empties.answers())
			}
		}
	}
}

func (q asked) cloned() asked {
	q.s, q.other, q.marks = cloned(q.s), cloned(q.other), slices.Clone(q.marks)
	return q
}

func (q asked) same(r asked) bool {
	return equalSeasons(q.s, r.s) && equalSeasons(q.other, r.other) && slices.Equal(q.marks, r.marks)
}

// roomy returns a list with much room behind its end.
func roomy[T any](list []T, x T) []T {
	return append(slices.Clone(list), slices.Repeat([]T{x}, 60)...)[:len(list)]
}

func isRoomy[T comparable](list []T, x T) bool {
	return slices.Equal(list[len(list):len(list)+60], slices.Repeat([]T{x}, 60))
}

// R4: no argument is changed, not even behind the end of a list.
func TestArgumentsStay(t *testing.T) {
	c, e := chance{at: 15}, entry(7, 7, 7, 7)
	for _, s := range seasons() {
		q := c.valid(s)
		before := q.cloned()
		q.s.Entries, q.other.Entries, q.marks = roomy(q.s.Entries, e), roomy(q.other.Entries, e), roomy(q.marks, 7)
		q.answers()
		if !isRoomy(q.s.Entries, e) || !isRoomy(q.other.Entries, e) || !isRoomy(q.marks, 7) || !q.same(before) {
			t.Fatal(before, q)
		}
	}
}

// spoil changes all elements of a list, and those behind its end.
func spoil[T any](list []T, x T) {
	list = list[:cap(list)]
	for i := range list {
		list[i] = x
	}
}

// R4 and R10: a result that is changed changes no other one, and no argument.
func TestResultsAreApart(t *testing.T) {
	c, e := chance{at: 16}, entry(7, 7, 7, 7)
	for _, s := range seasons() {
		q := c.valid(s)
		if c.below(3) == 0 { // then Put, Join and Since return all of the season
			q.other, q.marks = cloned(q.s), make([]int, 5)
			if len(q.s.Entries) > 0 {
				q.e = oneOf(&c, q.s.Entries)
			}
		}
		before, first := q.cloned(), q.answers()
		put, _ := season.Put(q.s, q.e)
		joined, _ := season.Join(q.s, q.other)
		since, _ := season.Since(q.s, q.marks)
		loaded, _ := season.Load(q.file)
		marks, _ := season.Marks(q.s)
		gaps, _ := season.Gaps(q.s, q.machine)
		replay, _ := season.Replay(q.s, q.machine)
		for _, s := range []api.Season{put, joined, since, loaded} {
			spoil(s.Entries, e)
		}
		for _, list := range [][]int{marks, gaps, replay.Refused} {
			spoil(list, 99)
		}
		if !q.same(before) || !equal(q.answers(), first) {
			t.Fatal(before, q)
		}
	}
}

// R9 and R10: equal calls return equal results, in whatever order and at once.
func TestAgain(t *testing.T) {
	c := chance{at: 17}
	var list []asked
	var want [][]answer
	for i, s := range seasons() {
		if i%10 == 0 {
			q := c.valid(s)
			list, want = append(list, q), append(want, q.answers())
		}
	}
	var wait sync.WaitGroup
	for from := range 8 {
		wait.Go(func() {
			for k := range list {
				i := (k*7 + from*13) % len(list)
				if got := list[i].answers(); !equal(got, want[i]) {
					t.Error(list[i], got, want[i])
				}
			}
		})
	}
	wait.Wait()
}
