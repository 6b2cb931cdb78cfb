package season

import (
	"cmp"
	"iter"
	"maps"
	"slices"

	"pennyfall/api"
)

// place is where an entry is: no other one has this number at this machine.
type place struct{ machine, number int }

func placeOf(e api.SeasonEntry) place { return place{e.Machine, e.Number} }

// inOrder returns less than 0 if an entry comes before another one, more than 0 if it
// comes behind it, and 0 if both are at one place.
func inOrder(e, other api.SeasonEntry) int {
	return cmp.Or(cmp.Compare(e.Machine, other.Machine), cmp.Compare(e.Number, other.Number))
}

// marks are those of all machines.
type marks [api.MaxSeasonMachine + 1]int

func marksOf(list []int) marks {
	var out marks
	copy(out[:], list)
	return out
}

// reach tells whether an entry is up to the mark of its machine.
func (m marks) reach(e api.SeasonEntry) bool { return e.Number <= m[e.Machine] }

// desk is one with a season.
type desk struct {
	api.Season
	book  map[place]api.SeasonEntry // the entries that are not taken back yet
	marks marks
}

// deskWith returns a desk with a season, or the error of CheckSeason.
func deskWith(s api.Season) (*desk, api.Errno) {
	if e := CheckSeason(s); e != api.OK {
		return nil, e
	}
	d := &desk{Season: s, book: map[place]api.SeasonEntry{}}
	for _, e := range s.Entries {
		d.book[placeOf(e)] = e
	}
	d.mark()
	return d, api.OK
}

// deskAt returns a desk with a season, for a machine, or an error.
func deskAt(s api.Season, machine int) (*desk, api.Errno) {
	d, e := deskWith(s)
	if e == api.OK && !within(0, api.MaxSeasonMachine, machine) {
		return nil, api.ErrArg
	}
	return d, e
}

// mark finds the marks. The entries of a machine are in the order of their Numbers: behind
// a gap, none is the next one any more.
func (d *desk) mark() {
	clear(d.marks[:])
	for _, e := range d.Entries {
		if e.Number == d.marks[e.Machine]+1 {
			d.marks[e.Machine] = e.Number
		}
	}
}

// with returns the season with more entries, or an error.
func (d *desk) with(more ...api.SeasonEntry) (api.Season, api.Errno) {
	for _, e := range more {
		if had, ok := d.book[placeOf(e)]; ok && had != e {
			return api.Season{}, api.ErrEqual
		}
		d.book[placeOf(e)] = e
	}
	if len(d.book) > api.MaxSeasonEntries {
		return api.Season{}, api.ErrMany
	}
	return api.Season{Entries: slices.SortedFunc(maps.Values(d.book), inOrder)}, api.OK
}

// since returns the season for somebody who has all up to some marks.
func (d *desk) since(had marks) api.Season {
	entries := takenOver(d.Entries)
	if had == (marks{}) { // those of an empty season: all is new
		return api.Season{Entries: entries}
	}
	return api.Season{Entries: slices.DeleteFunc(entries, had.reach)}
}

// of yields the entries of a machine that are meant, in the order of their Numbers.
func (d *desk) of(machine int, isMeant func(e api.SeasonEntry) bool) iter.Seq[api.SeasonEntry] {
	return func(yield func(e api.SeasonEntry) bool) {
		for _, e := range d.Entries {
			if e.Machine == machine && isMeant(e) && !yield(e) {
				return
			}
		}
	}
}

// gaps returns the Numbers of a machine that are missing before its last entry.
func (d *desk) gaps(machine int) []int {
	var room [api.MaxSeasonNumber]int
	grown := room[: 0 : api.MaxSeasonNumber-1] // the greatest Number is no gap
	number := 0
search:
	for {
		number++
		for e := range d.of(machine, func(e api.SeasonEntry) bool { return e.Number >= number }) {
			if e.Number > number {
				grown = append(grown, number)
			}
			continue search
		}
		return takenOver(grown)
	}
}

// takeBack leaves out the entries of a machine that are taken back. Who takes one back is
// asked of the season, not of the book: what is taken back stays taken back.
func (d *desk) takeBack(machine int) {
	for e := range d.of(machine, d.marks.reach) {
		if e.Kind == api.SeasonBack {
			delete(d.book, place{machine, e.Amount})
		}
	}
}

// replay plays a machine again, and returns its state.
func (d *desk) replay(machine int) api.SeasonState {
	d.takeBack(machine)
	var out again
	for number := range d.marks[machine] {
		if e, ok := d.book[place{machine, number + 1}]; ok {
			out.play(e)
		}
	}
	return out.SeasonState
}
