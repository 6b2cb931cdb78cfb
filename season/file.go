package season

import (
	"slices"
	"strconv"
	"strings"

	"pennyfall/api"
)

// words has that of each Kind at its number.
var words = [...]string{
	api.SeasonCoin: "coin",
	api.SeasonPlay: "play",
	api.SeasonBox:  "box",
	api.SeasonPlea: "plea",
	api.SeasonBack: "back",
}

// end is the word of the last line.
const end = "end"

// greatest is the greatest number of nine digits.
const greatest = 999999999

// line returns the line of some parts.
func line(parts ...string) string { return strings.Join(parts, " ") + "\n" }

func lineOf(e api.SeasonEntry) string {
	return line(strconv.Itoa(e.Machine), strconv.Itoa(e.Number), words[e.Kind], strconv.Itoa(e.Amount))
}

// lastLine returns the last line of the file of so many entries.
func lastLine(many int) string { return line(end, strconv.Itoa(many)) }

// fileOf returns the file of entries.
func fileOf(entries []api.SeasonEntry) string {
	out := ""
	for _, e := range entries {
		out += lineOf(e)
	}
	return out + lastLine(len(entries))
}

// entriesOf returns the entries of a file, and how many it says there are, or false if it
// has not the form of one.
func entriesOf(file string) ([]api.SeasonEntry, int, bool) {
	lines := slices.Collect(strings.Lines(file))
	if len(lines) == 0 {
		return nil, 0, false
	}
	last := len(lines) - 1
	var out []api.SeasonEntry
	for _, text := range lines[:last] {
		e, ok := entryOf(text)
		if !ok {
			return nil, 0, false
		}
		out = append(out, e)
	}
	many, ok := manyOf(lines[last])
	return out, many, ok
}

// entryOf returns the entry of a line, or false if it is the line of none. It reads any
// parts, but a line is right only if it is just what is written for what was read.
func entryOf(text string) (api.SeasonEntry, bool) {
	parts := strings.Fields(text)
	if len(parts) != 4 {
		return api.SeasonEntry{}, false
	}
	e := api.SeasonEntry{
		Machine: numberOf(parts[0]),
		Number:  numberOf(parts[1]),
		Kind:    slices.Index(words[:], parts[2]),
		Amount:  numberOf(parts[3]),
	}
	isRight := e.Kind > 0 && within(0, greatest, e.Machine, e.Number, e.Amount)
	return e, isRight && lineOf(e) == text
}

// manyOf returns the number of a last line, or false if it is none.
func manyOf(text string) (int, bool) {
	many := numberOf(strings.TrimSpace(strings.TrimPrefix(text, end)))
	return many, within(0, greatest, many) && lastLine(many) == text
}

// numberOf returns that of a part, or -1 if it is none.
func numberOf(part string) int {
	n, err := strconv.Atoi(part)
	if err != nil {
		return -1
	}
	return n
}
