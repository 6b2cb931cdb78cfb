package round_test

import (
	"math/bits"
	"slices"
	"testing"

	"pennyfall/api"
	"pennyfall/round"
)

func ints(list ...int) []int { return list }

func stop(place, to int64) api.RoundStop { return api.RoundStop{Place: place, To: to} }

func pier(begin int64, stops ...api.RoundStop) api.RoundPier {
	return api.RoundPier{Begin: begin, Stops: stops}
}

// pierP and pierQ are those of the chapter.
func pierP() api.RoundPier {
	return pier(5, stop(2, 10), stop(4, 9), stop(7, 4), stop(10, 20))
}

func pierQ() api.RoundPier {
	p := pierP()
	p.Stops[0].To = 6
	return p
}

// farPier has ten stops, five at each end of the greatest pier.
func farPier(to int64) api.RoundPier {
	p := pier(500)
	for _, place := range []int64{0, 1, 2, 3, 4, 996, 997, 998, 999, 1000} {
		p.Stops = append(p.Stops, stop(place, to))
	}
	return p
}

func cloned(p api.RoundPier) api.RoundPier {
	return api.RoundPier{Begin: p.Begin, Stops: slices.Clone(p.Stops)}
}

// changed returns a pier of which all is changed.
func changed(p api.RoundPier, change func(s *api.RoundStop)) api.RoundPier {
	out := cloned(p)
	for i := range out.Stops {
		change(&out.Stops[i])
	}
	return out
}

// lefts returns how many stops are on the left.
func lefts(p api.RoundPier) int {
	many := 0
	for _, s := range p.Stops {
		if s.Place < p.Begin {
			many++
		}
	}
	return many
}

// between tells whether a place lies between two others.
func between(place, one, other int64) bool {
	return min(one, other) < place && place < max(one, other)
}

// isRound tells whether a list of all stops is a round, by the definition.
func isRound(p api.RoundPier, list []int) bool {
	for i, stop := range list {
		for other, s := range p.Stops {
			if between(s.Place, p.Begin, p.Stops[stop].Place) && !slices.Contains(list[:i], other) {
				return false
			}
		}
	}
	return true
}

// roundsOf returns all rounds, in lexicographic order: each bit of a set tells
// whether the mechanic goes to the left for a stop of the round.
func roundsOf(p api.RoundPier) [][]int {
	var out [][]int
	left := lefts(p)
	for set := range 1 << len(p.Stops) {
		if bits.OnesCount(uint(set)) != left {
			continue
		}
		var list []int
		from, to := left-1, left
		for i := range p.Stops {
			if set>>i&1 == 1 {
				list = append(list, from)
				from--
			} else {
				list = append(list, to)
				to++
			}
		}
		out = append(out, list)
	}
	slices.SortFunc(out, slices.Compare[[]int])
	return out
}

// permutations returns all lists of so many stops, each once.
func permutations(many int) [][]int {
	if many == 0 {
		return [][]int{nil}
	}
	var out [][]int
	for _, list := range permutations(many - 1) {
		for at := range many {
			out = append(out, slices.Insert(slices.Clone(list), at, many-1))
		}
	}
	return out
}

func abs(n int64) int64 { return max(n, -n) }

// stepsOf returns the step of each stop in a round, by its index.
func stepsOf(p api.RoundPier, list []int) []int64 {
	out := make([]int64, len(list))
	for i, stop := range list {
		if i == 0 {
			out[stop] = abs(p.Stops[stop].Place - p.Begin)
		} else {
			out[stop] = out[list[i-1]] + abs(p.Stops[stop].Place-p.Stops[list[i-1]].Place)
		}
	}
	return out
}

// lateBy returns by how much steps are late, at most.
func lateBy(p api.RoundPier, steps []int64) int64 {
	out := steps[0] - p.Stops[0].To
	for i, s := range p.Stops {
		out = max(out, steps[i]-s.To)
	}
	return out
}

func isInTime(p api.RoundPier, list []int) bool { return lateBy(p, stepsOf(p, list)) <= 0 }

// inTime returns all rounds that are in time, in lexicographic order.
func inTime(p api.RoundPier) [][]int {
	return slices.DeleteFunc(roundsOf(p), func(list []int) bool { return !isInTime(p, list) })
}

// lengthOf returns the length of a round.
func lengthOf(p api.RoundPier, list []int) int64 { return stepsOf(p, list)[list[len(list)-1]] }

// shortestOf returns the first shortest of some rounds.
func shortestOf(p api.RoundPier, rounds [][]int) []int {
	return slices.MinFunc(rounds, func(a, b []int) int { return int(lengthOf(p, a) - lengthOf(p, b)) })
}

// members returns the elements whose bits a number has.
func members(set int) []int {
	var out []int
	for at := 0; set>>at > 0; at++ {
		if set>>at&1 == 1 {
			out = append(out, at)
		}
	}
	return out
}

// clashing tells whether stops clash, by the definition.
func clashing(p api.RoundPier, stops []int) bool {
	free := cloned(p)
	for i := range free.Stops {
		if !slices.Contains(stops, i) {
			free.Stops[i].To = 1 << 40
		}
	}
	return len(inTime(free)) == 0
}

// fewestClashing returns the first of the fewest stops that clash; there are some.
func fewestClashing(p api.RoundPier) []int {
	var missed []int // of each round, the set of the stops that it misses
	for _, list := range roundsOf(p) {
		set := 0
		for i, step := range stepsOf(p, list) {
			if step > p.Stops[i].To {
				set |= 1 << i
			}
		}
		missed = append(missed, set)
	}
	var out []int
	for set := range 1 << len(p.Stops) {
		if slices.ContainsFunc(missed, func(late int) bool { return late&set == 0 }) {
			continue
		}
		if list := members(set); out == nil || len(list) < len(out) ||
			len(list) == len(out) && slices.Compare(list, out) < 0 {
			out = list
		}
	}
	return out
}

// chance is numbers that seem to be chance, and are the same in each run.
type chance struct{ at uint64 }

func (c *chance) below(n int) int {
	c.at = c.at*6364136223846793005 + 1442695040888963407
	return int((c.at >> 33) % uint64(n))
}

func (c *chance) from(least, most int64) int64 {
	return least + int64(c.below(int(most-least)+1))
}

// places returns so many, strictly increasing, below most.
func (c *chance) places(many int, most int64) []int64 {
	var out []int64
	for len(out) < many {
		if place := c.from(0, most-1); !slices.Contains(out, place) {
			out = append(out, place)
		}
	}
	slices.Sort(out)
	return out
}

// pier returns one of so many stops on so many places, without steps.
func (c *chance) pier(stops int, most int64) api.RoundPier {
	places := c.places(stops+1, most)
	at := c.below(len(places))
	p := pier(places[at])
	for _, place := range slices.Delete(places, at, at+1) {
		p.Stops = append(p.Stops, stop(place, 0))
	}
	return p
}

// oneOf returns some element.
func oneOf[T any](c *chance, list []T) T { return list[c.below(len(list))] }

// times gives a pier steps: those of some round, but for about so many stops, and
// up to so much more.
func (c *chance) times(p api.RoundPier, wrong int, more int64) {
	for i, step := range stepsOf(p, oneOf(c, roundsOf(p))) {
		p.Stops[i].To = min(step+c.from(0, more), api.MaxRoundStep)
	}
	for range wrong {
		s := &p.Stops[c.below(len(p.Stops))]
		s.To = max(0, s.To-c.from(0, 1+s.To/2))
	}
}

// small returns all piers of three stops at most, on four places, with short times.
func small() []api.RoundPier {
	var out []api.RoundPier
	for begin := range int64(4) {
		for set := 1; set < 1<<4; set++ {
			if set>>begin&1 == 1 {
				continue
			}
			places := members(set)
			for times := range 1 << (3 * len(places)) {
				p := pier(begin)
				for i, place := range places {
					p.Stops = append(p.Stops, stop(int64(place), int64(times>>(3*i)&7)))
				}
				out = append(out, p)
			}
		}
	}
	return out
}

// great returns piers of chance, up to the limits.
func great() []api.RoundPier {
	c := chance{at: 1}
	out := []api.RoundPier{pierP(), pierQ(), farPier(api.MaxRoundStep), farPier(0), farPier(1500)}
	for i := range 1500 {
		most := []int64{12, 40, 200, 1001}[i%4]
		p := c.pier(1+c.below(api.MaxRoundStops), most)
		c.times(p, i/4%5, c.from(0, most/2))
		out = append(out, p)
	}
	for range 500 { // one round that is just not in time: often many stops have to clash
		p := c.pier(4+c.below(api.MaxRoundStops-3), 30)
		c.times(p, 0, 0)
		s := &p.Stops[c.below(len(p.Stops))]
		s.To--
		out = append(out, p)
	}
	return out
}

func all() []api.RoundPier { return append(small(), great()...) }

// must returns what a function tells of a valid pier.
func must[T any](t *testing.T, ask func(p api.RoundPier) (T, api.Errno), p api.RoundPier) T {
	t.Helper()
	out, e := ask(p)
	if e != api.OK {
		t.Fatal(p, out, e)
	}
	return out
}

// spans returns what Within returns for all stops.
func spans(p api.RoundPier) ([]api.Range, []api.Errno) {
	var out []api.Range
	var errors []api.Errno
	for i := range p.Stops {
		r, e := round.Within(p, i)
		out, errors = append(out, r), append(errors, e)
	}
	return out, errors
}
