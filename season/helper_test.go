package season_test

import (
	"fmt"
	"regexp"
	"slices"
	"strings"
	"testing"

	"pennyfall/api"
)

const (
	coin = api.SeasonCoin
	play = api.SeasonPlay
	box  = api.SeasonBox
	plea = api.SeasonPlea
	back = api.SeasonBack
)

func ints(list ...int) []int { return list }

func entry(machine, number, kind, amount int) api.SeasonEntry {
	return api.SeasonEntry{Machine: machine, Number: number, Kind: kind, Amount: amount}
}

// book returns a season.
func book(entries ...api.SeasonEntry) api.Season { return api.Season{Entries: entries} }

// seasonS, seasonT and seasonJ are those of the chapter.
func seasonS() api.Season {
	return book(entry(0, 1, coin, 5), entry(0, 2, play, 2), entry(0, 3, box, 2), entry(0, 5, coin, 1),
		entry(2, 1, coin, 1), entry(2, 2, play, 3), entry(2, 3, back, 1))
}

func seasonT() api.Season { return book(entry(0, 3, box, 2), entry(0, 4, plea, 1)) }

func seasonJ() api.Season {
	return book(entry(0, 1, coin, 5), entry(0, 2, play, 2), entry(0, 3, box, 2), entry(0, 4, plea, 1),
		entry(0, 5, coin, 1), entry(2, 1, coin, 1), entry(2, 2, play, 3), entry(2, 3, back, 1))
}

// coins returns a season with so many coins at a machine.
func coins(machine, many int) api.Season {
	var out api.Season
	for n := range many {
		out.Entries = append(out.Entries, entry(machine, n+1, coin, n+1))
	}
	return out
}

// machines returns all machines.
func machines() []int { return ints(0, 1, 2, 3, 4) }

func equalSeasons(a, b api.Season) bool { return slices.Equal(a.Entries, b.Entries) }

func equalStates(a, b api.SeasonState) bool {
	numbers := func(s api.SeasonState) [5]int64 {
		return [5]int64{s.Credit, s.Held, s.Boxed, s.Paid, s.Returned}
	}
	return numbers(a) == numbers(b) && slices.Equal(a.Refused, b.Refused)
}

// state returns one as the chapter writes it.
func state(credit, held, boxed, paid, returned int64, refused ...int) api.SeasonState {
	return api.SeasonState{
		Credit: credit, Held: held, Boxed: boxed, Paid: paid, Returned: returned, Refused: refused,
	}
}

func cloned(s api.Season) api.Season { return book(slices.Clone(s.Entries)...) }

// without returns a season with all entries but one.
func without(s api.Season, i int) api.Season {
	return book(slices.Delete(cloned(s).Entries, i, i+1)...)
}

// isBefore tells whether an entry comes before another one in a season.
func isBefore(a, b api.SeasonEntry) bool {
	return a.Machine < b.Machine || a.Machine == b.Machine && a.Number < b.Number
}

// ordered returns a season with entries in whatever order.
func ordered(entries []api.SeasonEntry) api.Season {
	out := slices.Clone(entries)
	slices.SortFunc(out, func(a, b api.SeasonEntry) int {
		switch {
		case isBefore(a, b):
			return -1
		case isBefore(b, a):
			return 1
		}
		return 0
	})
	return book(out...)
}

// errorOfEntry returns that of an entry, by the definition.
func errorOfEntry(e api.SeasonEntry) api.Errno {
	if e.Machine < 0 || e.Machine > 4 || e.Number < 1 || e.Number > 30 || e.Amount < 0 || e.Amount > 100 {
		return api.ErrRange
	}
	isNone := e.Kind < 1 || e.Kind > 5
	isNothing := e.Amount == 0 && (e.Kind == coin || e.Kind == plea || e.Kind == back)
	if isNone || isNothing || e.Kind == back && e.Amount >= e.Number {
		return api.ErrArg
	}
	return api.OK
}

// errorOf returns that of a season, by the definition.
func errorOf(s api.Season) api.Errno {
	if len(s.Entries) > 24 {
		return api.ErrMany
	}
	for _, e := range s.Entries {
		if err := errorOfEntry(e); err != api.OK {
			return err
		}
	}
	for i := 1; i < len(s.Entries); i++ {
		if !isBefore(s.Entries[i-1], s.Entries[i]) {
			return api.ErrRule
		}
	}
	return api.OK
}

// find returns the entry of a machine with a number, or false if there is none.
func find(s api.Season, machine, number int) (api.SeasonEntry, bool) {
	for _, e := range s.Entries {
		if e.Machine == machine && e.Number == number {
			return e, true
		}
	}
	return api.SeasonEntry{}, false
}

// joined returns what Join returns, by the definition, if both seasons are valid.
func joined(a, b api.Season) (api.Season, api.Errno) {
	all := slices.Clone(a.Entries)
	for _, e := range b.Entries {
		had, ok := find(a, e.Machine, e.Number)
		if ok && had != e {
			return api.Season{}, api.ErrEqual
		}
		if !ok {
			all = append(all, e)
		}
	}
	if len(all) > 24 {
		return api.Season{}, api.ErrMany
	}
	return ordered(all), api.OK
}

// markOf and marksOf return marks, by the definition.
func markOf(s api.Season, machine int) int {
	for mark := 0; ; mark++ {
		if _, ok := find(s, machine, mark+1); !ok {
			return mark
		}
	}
}

func marksOf(s api.Season) []int {
	var out []int
	for _, machine := range machines() {
		out = append(out, markOf(s, machine))
	}
	return out
}

// greatestOf returns the greatest Number of a machine, or 0.
func greatestOf(s api.Season, machine int) int {
	out := 0
	for _, e := range s.Entries {
		if e.Machine == machine {
			out = max(out, e.Number)
		}
	}
	return out
}

// gapsOf returns the gaps of a machine, by the definition.
func gapsOf(s api.Season, machine int) []int {
	var out []int
	for number := 1; number < greatestOf(s, machine); number++ {
		if _, ok := find(s, machine, number); !ok {
			out = append(out, number)
		}
	}
	return out
}

// sinceOf returns what is behind marks, by the definition.
func sinceOf(s api.Season, marks []int) api.Season {
	var out api.Season
	for _, e := range s.Entries {
		if e.Number > marks[e.Machine] {
			out.Entries = append(out.Entries, e)
		}
	}
	return out
}

// settledOf returns the settled entries of a machine, by the definition.
func settledOf(s api.Season, machine int) []api.SeasonEntry {
	var out []api.SeasonEntry
	for number := range markOf(s, machine) {
		e, _ := find(s, machine, number+1)
		out = append(out, e)
	}
	return out
}

// isLeftOut tells whether one of the settled entries of a machine takes a number back.
func isLeftOut(settled []api.SeasonEntry, number int) bool {
	return slices.ContainsFunc(settled, func(e api.SeasonEntry) bool {
		return e.Kind == back && e.Amount == number
	})
}

// moved returns a state with an entry played again, as if nothing were refused.
func moved(s api.SeasonState, e api.SeasonEntry) api.SeasonState {
	by := map[int]api.SeasonState{
		coin: state(1, 1, 0, 0, 0), play: state(0, -1, 0, 1, 0), box: state(0, -1, 1, 0, 0), plea: state(0, 0, -1, 0, 1),
	}[e.Kind]
	many := int64(e.Amount)
	out := state(s.Credit+by.Credit*many, s.Held+by.Held*many, s.Boxed+by.Boxed*many, s.Paid+by.Paid*many,
		s.Returned+by.Returned*many, s.Refused...)
	if e.Kind == play {
		out.Credit--
	}
	return out
}

// stateOf returns that of a machine: what would make a number less than 0 is refused.
func stateOf(s api.Season, machine int) api.SeasonState {
	var out api.SeasonState
	settled := settledOf(s, machine)
	for _, e := range settled {
		if e.Kind == back || isLeftOut(settled, e.Number) {
			continue
		}
		if next := moved(out, e); min(next.Credit, next.Held, next.Boxed) >= 0 {
			out = next
		} else {
			out.Refused = append(out.Refused, e.Number)
		}
	}
	return out
}

// fileOf returns the file of a season, by the definition.
func fileOf(s api.Season) string {
	out := ""
	for _, e := range s.Entries {
		word := map[int]string{coin: "coin", play: "play", box: "box", plea: "plea", back: "back"}[e.Kind]
		out += fmt.Sprintf("%d %d %s %d\n", e.Machine, e.Number, word, e.Amount)
	}
	return out + fmt.Sprintf("end %d\n", len(s.Entries))
}

// number, line and form are what a number, a line of an entry and a file look like.
const number = `(0|[1-9][0-9]{0,8})`
const line = number + ` ` + number + ` (coin|play|box|plea|back) ` + number + `\n`

var form = regexp.MustCompile(`\A(` + line + `)*end ` + number + `\n\z`)

// loaded returns what Load returns, by the definition.
func loaded(file string) (api.Season, api.Errno) {
	if len(file) > 500 {
		return api.Season{}, api.ErrLong
	}
	if !form.MatchString(file) {
		return api.Season{}, api.ErrForm
	}
	var out api.Season
	for _, line := range strings.Split(strings.TrimSuffix(file, "\n"), "\n") {
		var e api.SeasonEntry
		var word string
		if n, _ := fmt.Sscanf(line, "%d %d %s %d", &e.Machine, &e.Number, &word, &e.Amount); n == 4 {
			e.Kind = 1 + slices.Index([]string{"coin", "play", "box", "plea", "back"}, word)
			out.Entries = append(out.Entries, e)
		}
	}
	if !strings.HasSuffix(file, fmt.Sprintf("end %d\n", len(out.Entries))) {
		return api.Season{}, api.ErrRule
	}
	if e := errorOf(out); e != api.OK {
		return api.Season{}, e
	}
	return out, api.OK
}

// must returns what a function tells of a valid argument.
func must[A, T any](t *testing.T, ask func(x A) (T, api.Errno), x A) T {
	t.Helper()
	out, e := ask(x)
	if e != api.OK {
		t.Fatal(x, out, e)
	}
	return out
}

// told returns what a function tells of two valid arguments.
func told[A, B, T any](t *testing.T, ask func(x A, y B) (T, api.Errno), x A, y B) T {
	t.Helper()
	out, e := ask(x, y)
	if e != api.OK {
		t.Fatal(x, y, out, e)
	}
	return out
}
