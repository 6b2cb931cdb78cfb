package season_test

import (
	"fmt"
	"slices"
	"strings"
	"testing"

	"pennyfall/api"
	"pennyfall/season"
)

// P12.6: the example of the chapter, and others.
func TestFileOfSome(t *testing.T) {
	long := ""
	for n := 1; n <= 24; n++ {
		long += fmt.Sprintf("4 %d coin %d\n", n, n)
	}
	for i, x := range []struct {
		s    api.Season
		file string
		e    api.Errno
	}{
		{seasonT(), "0 3 box 2\n0 4 plea 1\nend 2\n", api.OK},
		{seasonS(), "0 1 coin 5\n0 2 play 2\n0 3 box 2\n0 5 coin 1\n2 1 coin 1\n2 2 play 3\n2 3 back 1\nend 7\n", api.OK},
		{api.Season{}, "end 0\n", api.OK},
		{book(entry(4, 30, coin, 100)), "4 30 coin 100\nend 1\n", api.OK},
		{book(entry(0, 10, play, 0)), "0 10 play 0\nend 1\n", api.OK},
		{coins(4, 24), long + "end 24\n", api.OK},
		// invalid
		{coins(0, 25), "", api.ErrMany},
		{book(entry(0, 1, 9, 1)), "", api.ErrArg},
		{book(entry(0, 31, coin, 1)), "", api.ErrRange},
		{book(entry(1, 2, coin, 1), entry(1, 1, coin, 1)), "", api.ErrRule},
	} {
		if file, e := season.File(x.s); file != x.file || e != x.e {
			t.Errorf("%d %q %v", i, file, e)
		}
	}
}

// P12.6: files that are right, and those that are not.
func TestLoadOfSome(t *testing.T) {
	full := fileOf(coins(0, 24))
	full = full[:strings.Index(full, "end")]
	many := strings.Repeat("0 1 box 0\n", 49)
	for i, x := range []struct {
		file string
		s    api.Season
		e    api.Errno
	}{
		{"0 3 box 2\n0 4 plea 1\nend 2\n", seasonT(), api.OK},
		{"end 0\n", api.Season{}, api.OK},
		{full + "end 24\n", coins(0, 24), api.OK},
		{"4 30 back 29\nend 1\n", book(entry(4, 30, back, 29)), api.OK},
		// the last line
		{"", api.Season{}, api.ErrForm},
		{"\n", api.Season{}, api.ErrForm},
		{"end\n", api.Season{}, api.ErrForm},
		{"end \n", api.Season{}, api.ErrForm},
		{"end 0", api.Season{}, api.ErrForm},
		{"end 0\n\n", api.Season{}, api.ErrForm},
		{"\nend 0\n", api.Season{}, api.ErrForm},
		{"end 0\r\n", api.Season{}, api.ErrForm},
		{"end  0\n", api.Season{}, api.ErrForm},
		{"end 0 \n", api.Season{}, api.ErrForm},
		{" end 0\n", api.Season{}, api.ErrForm},
		{"end\t0\n", api.Season{}, api.ErrForm},
		{"END 0\n", api.Season{}, api.ErrForm},
		{"end0\n", api.Season{}, api.ErrForm},
		{"0\n", api.Season{}, api.ErrForm},
		{"end 00\n", api.Season{}, api.ErrForm},
		{"end -0\n", api.Season{}, api.ErrForm},
		{"end -1\n", api.Season{}, api.ErrForm},
		{"end +0\n", api.Season{}, api.ErrForm},
		{"end x\n", api.Season{}, api.ErrForm},
		{"end 0 0\n", api.Season{}, api.ErrForm},
		{"end 0\nend 0\n", api.Season{}, api.ErrForm},
		{"end end 0\n", api.Season{}, api.ErrForm},
		{"end 0\n0 1 coin 1\n", api.Season{}, api.ErrForm},
		{"0 1 coin 1\n", api.Season{}, api.ErrForm},
		{"0 1 coin 1\nend 1", api.Season{}, api.ErrForm},
		{"0 1 coin 1\nend 1\n\x00", api.Season{}, api.ErrForm},
		{"end 1000000000\n", api.Season{}, api.ErrForm}, // ten digits
		{"end 99999999999999999999999\n", api.Season{}, api.ErrForm},
		{"end 999999999\n", api.Season{}, api.ErrRule}, // nine
		{"end 1\n", api.Season{}, api.ErrRule},
		{"0 1 coin 1\nend 0\n", api.Season{}, api.ErrRule},
		{"0 1 coin 1\nend 2\n", api.Season{}, api.ErrRule},
		{"0 1 coin 1\nend 10\n", api.Season{}, api.ErrRule},
		{"0 1 coin 1\nend 01\n", api.Season{}, api.ErrForm},
		// a line
		{"0 1 coin\nend 1\n", api.Season{}, api.ErrForm},
		{"0 1 coin 1 1\nend 1\n", api.Season{}, api.ErrForm},
		{"0 1 coin 1 \nend 1\n", api.Season{}, api.ErrForm},
		{" 0 1 coin 1\nend 1\n", api.Season{}, api.ErrForm},
		{"0  1 coin 1\nend 1\n", api.Season{}, api.ErrForm},
		{"0 1 coin  1\nend 1\n", api.Season{}, api.ErrForm},
		{"0 1\tcoin 1\nend 1\n", api.Season{}, api.ErrForm},
		{"0 1 coin 1\r\nend 1\n", api.Season{}, api.ErrForm},
		{"0 1 coin 1\n\nend 1\n", api.Season{}, api.ErrForm},
		{"0 1 Coin 1\nend 1\n", api.Season{}, api.ErrForm},
		{"0 1 coins 1\nend 1\n", api.Season{}, api.ErrForm},
		{"0 1 coi 1\nend 1\n", api.Season{}, api.ErrForm},
		{"0 1 end 1\nend 1\n", api.Season{}, api.ErrForm},
		{"0 1 1 1\nend 1\n", api.Season{}, api.ErrForm},
		{"0 1  1\nend 1\n", api.Season{}, api.ErrForm},
		{"1 coin 0 1\nend 1\n", api.Season{}, api.ErrForm},
		{"00 1 coin 1\nend 1\n", api.Season{}, api.ErrForm},
		{"0 01 coin 1\nend 1\n", api.Season{}, api.ErrForm},
		{"0 1 coin 01\nend 1\n", api.Season{}, api.ErrForm},
		{"-1 1 coin 1\nend 1\n", api.Season{}, api.ErrForm},
		{"0 -1 coin 1\nend 1\n", api.Season{}, api.ErrForm},
		{"0 1 coin -1\nend 1\n", api.Season{}, api.ErrForm},
		{"0 1 coin +1\nend 1\n", api.Season{}, api.ErrForm},
		{"0 1 coin 1e1\nend 1\n", api.Season{}, api.ErrForm},
		{"0 1 coin 1_0\nend 1\n", api.Season{}, api.ErrForm},
		{"0 1 coin 0x1\nend 1\n", api.Season{}, api.ErrForm},
		{"0 1 coin \u0661\nend 1\n", api.Season{}, api.ErrForm},
		{"0 1\u00a0coin 1\nend 1\n", api.Season{}, api.ErrForm},
		{"0 1 coin 1\u2028end 1\n", api.Season{}, api.ErrForm},
		{"1000000000 1 coin 1\nend 1\n", api.Season{}, api.ErrForm},
		{"0 1000000000 coin 1\nend 1\n", api.Season{}, api.ErrForm},
		{"0 1 coin 1000000000\nend 1\n", api.Season{}, api.ErrForm},
		{"0 1 coin 18446744073709551617\nend 1\n", api.Season{}, api.ErrForm},
		{"999999999 1 coin 1\nend 1\n", api.Season{}, api.ErrRange}, // too great, but of this form
		{"0 999999999 coin 1\nend 1\n", api.Season{}, api.ErrRange},
		{"0 1 coin 999999999\nend 1\n", api.Season{}, api.ErrRange},
		// the season
		{"5 1 coin 1\nend 1\n", api.Season{}, api.ErrRange},
		{"0 0 coin 1\nend 1\n", api.Season{}, api.ErrRange},
		{"0 1 coin 0\nend 1\n", api.Season{}, api.ErrArg},
		{"0 1 back 1\nend 1\n", api.Season{}, api.ErrArg},
		{"0 2 coin 1\n0 1 coin 1\nend 2\n", api.Season{}, api.ErrRule},
		{"0 1 coin 1\n0 1 coin 1\nend 2\n", api.Season{}, api.ErrRule},
		{full + "1 1 coin 1\nend 25\n", api.Season{}, api.ErrMany},
		{many + "end 49\n", api.Season{}, api.ErrMany},
		// the first error before the others
		{full + "1 1 coin 1\nend 24\n", api.Season{}, api.ErrRule},
		{"5 1 coin 1\nend 2\n", api.Season{}, api.ErrRule},
		{"5 1 coin 1\nend 01\n", api.Season{}, api.ErrForm},
		{"5 1 coin 1\n0 1 coin x\nend 1\n", api.Season{}, api.ErrForm},
		// long ones
		{many + "end 49\n" + "xxx", api.Season{}, api.ErrForm},
		{many + "end 49\n" + "xxxx", api.Season{}, api.ErrLong},
		{many + "end 0000\n", api.Season{}, api.ErrForm},
		{many + "end 10000\n", api.Season{}, api.ErrRule}, // of 500 bytes
		{many + "end 100000\n", api.Season{}, api.ErrLong},
		{strings.Repeat("x", 500), api.Season{}, api.ErrForm},
		{strings.Repeat("x", 501), api.Season{}, api.ErrLong},
		{strings.Repeat("\n", 500), api.Season{}, api.ErrForm},
		{strings.Repeat("9", 500), api.Season{}, api.ErrForm},
		{strings.Repeat(" ", 1<<20), api.Season{}, api.ErrLong},
		{"end " + strings.Repeat("9", 400) + "\n", api.Season{}, api.ErrForm},
	} {
		if s, e := season.Load(x.file); !equalSeasons(s, x.s) || e != x.e {
			t.Errorf("%d %q %v %v", i, x.file, s, e)
		}
		if s, e := loaded(x.file); !equalSeasons(s, x.s) || e != x.e {
			t.Errorf("the definition: %d %q %v %v", i, x.file, s, e)
		}
	}
}

// checkLoad holds Load against the definition.
func checkLoad(t *testing.T, file string) api.Errno {
	t.Helper()
	want, err := loaded(file)
	if s, e := season.Load(file); !equalSeasons(s, want) || e != err {
		t.Fatalf("%q %v %v %v %v", file, s, e, want, err)
	}
	return err
}

// P12.6, by the definition: the files of all small seasons, and of others.
func TestFile(t *testing.T) {
	for _, s := range append(allWith(3), seasons()...) {
		file := must(t, season.File, s)
		if file != fileOf(s) {
			t.Fatalf("%v %q", s, file)
		}
		if checkLoad(t, file) != api.OK {
			t.Fatalf("%v %q", s, file)
		}
	}
}

// P12.6, by the definition: files of which a byte is missing, is another one, or is one
// more, wherever.
func TestLoadOfChangedBytes(t *testing.T) {
	found := map[api.Errno]int{}
	for _, s := range []api.Season{{}, seasonT(), seasonS(), book(entry(4, 30, back, 29), entry(4, 30, coin, 100))} {
		file := fileOf(s)
		for i := range len(file) + 1 {
			rest := file[min(i+1, len(file)):]
			found[checkLoad(t, file[:i]+rest)]++
			found[checkLoad(t, file[:i])]++
			for b := range 256 {
				found[checkLoad(t, file[:i]+string([]byte{byte(b)})+rest)]++
				found[checkLoad(t, file[:i]+string([]byte{byte(b)})+file[i:])]++
			}
		}
	}
	for _, e := range []api.Errno{api.OK, api.ErrForm, api.ErrRule, api.ErrRange, api.ErrArg} {
		if found[e] < 10 {
			t.Error("too few of a kind:", found)
		}
	}
}

// text returns the file of a season that is changed in several ways.
func (c *chance) text(s api.Season) string {
	words := strings.Split(fileOf(s), " ")
	i := c.below(len(words))
	switch c.below(6) {
	case 0:
		words[i] = oneOf(c, strings.Split("0,1,4,5,30,31,100,101,007,-1,coin,play,box,plea,back,end,999999999,1000000000", ","))
	case 1:
		words = slices.Delete(words, i, i+1)
	}
	lines := strings.SplitAfter(strings.Join(words, " "), "\n")
	i, k := c.below(len(lines)), c.below(len(lines))
	switch c.below(6) {
	case 0:
		lines[i], lines[k] = lines[k], lines[i]
	case 1:
		lines = slices.Insert(lines, i, lines[k])
	case 2:
		lines = slices.Insert(lines, i, lines[:k]...)
	case 3:
		lines = slices.Delete(lines, i, i+1)
	}
	if c.below(2) == 0 { // then the number in the last line is right
		lines = slices.DeleteFunc(lines, func(l string) bool { return l == "" || l[0] == 'e' })
		lines = append(lines, fmt.Sprintf("end %d\n", len(lines)))
	}
	return strings.Join(lines, "")
}

// P12.6, by the definition: files with other words and other lines.
func TestLoadOfChangedLines(t *testing.T) {
	c, found := chance{at: 6}, map[api.Errno]int{}
	for _, s := range seasons() {
		for range 10 {
			found[checkLoad(t, c.text(s))]++
		}
	}
	for _, e := range []api.Errno{
		api.OK, api.ErrLong, api.ErrForm, api.ErrRule, api.ErrMany, api.ErrRange, api.ErrArg,
	} {
		if found[e] < 50 {
			t.Error("too few of a kind:", found)
		}
	}
}
