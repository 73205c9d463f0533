package rules_test

// What Check should answer is told by all days' words that chapter 14 reads, and by lists of what is wrong; what Show
// should answer, by the library's formats and its time.

import (
	"fmt"
	"math"
	"regexp"
	"slices"
	"strings"
	"testing"
	"time"

	"analemma/api"
	"analemma/rules"
	"analemma/words"
)

var (
	nameForm = regexp.MustCompile(`\A[A-Za-z0-9_/-]{1,32}\z`)
	abbrForm = regexp.MustCompile(`\A[A-Za-z]{1,6}\z`)
	weekdays = strings.Fields("mon tue wed thu fri sat sun")
	dayWords = allDays()
)

// allDays are all days that chapter 14 can tell, with their words.
func allDays() map[api.Day]string {
	out := map[api.Day]string{}
	add := func(word string) {
		d, e := words.Day(word)
		if e != api.OK {
			panic(word)
		}
		out[d] = word
	}
	for n := 1; n <= 31; n++ {
		add(fmt.Sprint(n))
		for _, name := range weekdays {
			add(fmt.Sprint(name, ">=", n))
			add(fmt.Sprint(name, "<=", n))
		}
	}
	for _, name := range weekdays {
		add("last-" + name)
	}
	return out
}

func outside(n, low, high int) bool {
	return n < low || n > high
}

// dueLineBad tells whether a line may not be.
func dueLineBad(l api.Line) bool {
	_, day := dayWords[l.Day]
	switch l.Kind {
	case 1:
		return l.From != 0 || l.To != 0 || l.Month != 0 || l.Day != api.Day{} || l.Time != 0 || l.Read != 0
	case 2:
		to := l.To != 1<<20 && (outside(l.To, -9999, 9999) || l.To < l.From)
		return l.Sec != 0 || outside(l.From, -9999, 9999) || to || outside(l.Month, 1, 12) || !day || outside(l.Time, 0, 86400) || outside(l.Read, -64800, 64800)
	}
	return true
}

// dueCheck lists all errors; the least number counts.
func dueCheck(z api.Source) api.Errno {
	faults := []api.Errno{}
	tell := func(wrong bool, e api.Errno) {
		if wrong {
			faults = append(faults, e)
		}
	}
	ons := 0
	tell(!nameForm.MatchString(z.Name), api.ErrSyntax)
	tell(!abbrForm.MatchString(z.Base.Abbr), api.ErrSyntax)
	tell(z.Base.Dst, api.ErrBadArg)
	tell(outside(z.Base.Offset, -64800, 64800), api.ErrRange)
	for _, l := range z.Lines {
		if l.Kind == 2 && l.To == 1<<20 {
			ons++
		}
		tell(!abbrForm.MatchString(l.Triple.Abbr), api.ErrSyntax)
		tell(dueLineBad(l), api.ErrBadArg)
		tell(outside(l.Triple.Offset, -64800, 64800), api.ErrRange)
		tell(l.Kind == 1 && outside(l.Sec, -377705116800, 253402300799), api.ErrRange)
	}
	tell(len(z.Lines) > 16 || ons > 4, api.ErrTooBig)
	if len(faults) == 0 {
		return api.OK
	}
	return slices.Min(faults)
}

// short leaves out seconds that are 0.
func short(h, m, s int) string {
	if s == 0 {
		return fmt.Sprintf("%02d:%02d", h, m)
	}
	return fmt.Sprintf("%02d:%02d:%02d", h, m, s)
}

func dueOffset(n int) string {
	if n < 0 {
		return "-" + short(-n/3600, -n/60%60, -n%60)
	}
	return "+" + short(n/3600, n/60%60, n%60)
}

func dueMoment(sec int) string {
	at := time.Unix(int64(sec), 0).UTC()
	y, sign := at.Year(), ""
	if y < 0 {
		y, sign = -y, "-"
	}
	return fmt.Sprintf("%s%04d-%02d-%02dT%02d:%02d:%02d", sign, y, at.Month(), at.Day(), at.Hour(), at.Minute(), at.Second())
}

// dueShow is what Show must answer of a source that may be.
func dueShow(z api.Source) string {
	text := fmt.Sprintf("zone %s\nbase %s %s\n", z.Name, dueOffset(z.Base.Offset), z.Base.Abbr)
	for _, l := range z.Lines {
		mark := map[bool]string{false: "std", true: "dst"}[l.Triple.Dst]
		behind := fmt.Sprintf("%s %s %s\n", dueOffset(l.Triple.Offset), mark, l.Triple.Abbr)
		if l.Kind == 1 {
			text += "at " + dueMoment(l.Sec) + " " + behind
			continue
		}
		to := fmt.Sprint(l.To)
		if l.To == l.From {
			to = "only"
		}
		if l.To == 1<<20 {
			to = "on"
		}
		text += fmt.Sprintf("rule %d %s %s %s %s %s %s", l.From, to, monthWords[l.Month-1], dayWords[l.Day], short(l.Time/3600, l.Time/60%60, l.Time%60), dueOffset(l.Read), behind)
	}
	return text
}

// holdBack holds 15.3 and T5: Parse of Show(z) is z, and Show of that the same text.
func holdBack(t *testing.T, z api.Source) {
	t.Helper()
	s, e := rules.Show(z)
	if e != api.OK || s != dueShow(z) {
		t.Fatalf("Show(%v):\n%s, %d, want\n%s", z, s, e, dueShow(z))
	}
	again, n, e := rules.Parse(s)
	if !same(again, z) || n != 0 || e != api.OK {
		t.Fatalf("Parse(%q):\n%v, %d, %d, want\n%v", s, again, n, e, z)
	}
}

// holdSource holds Check and Show of any source.
func holdSource(t *testing.T, z api.Source) {
	t.Helper()
	holdCheck(t, z, dueCheck(z))
}

func holdCheck(t *testing.T, z api.Source, want api.Errno) {
	t.Helper()
	if e := rules.Check(z); e != want {
		t.Fatalf("Check(%v) = %d, want %d", z, e, want)
	}
	if want == api.OK {
		holdBack(t, z)
		return
	}
	if s, e := rules.Show(z); s != "" || e != want {
		t.Fatalf("Show(%v) = %q, %d, want %d", z, s, e, want)
	}
}

// sample is a source that may be: a LineAt, a rule with an end, one without.
func sample() api.Source {
	return api.Source{Name: "A", Base: api.Triple{Abbr: "U"}, Lines: []api.Line{
		{Kind: 1, Sec: 7, Triple: api.Triple{Offset: 3600, Dst: true, Abbr: "B"}},
		{Kind: 2, From: 5, To: 6, Month: 3, Day: api.Day{Kind: 1, W: 7}, Time: 3600, Read: -60, Triple: api.Triple{Abbr: "C"}},
		{Kind: 2, From: -5, To: 1 << 20, Month: 12, Day: api.Day{Kind: 3, N: 31, W: 1}, Time: 1, Read: 1, Triple: api.Triple{Offset: -1, Dst: true, Abbr: "D"}},
	}}
}

type change func(z *api.Source)

var numbers = []int{math.MinInt, math.MinInt + 1, -377705116801, -377705116800, -1 << 32, -86401, -64801, -64800, -10000, -9999, -1, 0, 1, 2, 3, 4, 5, 6, 7, 8, 9, 12, 13, 31, 32,
	64800, 64801, 86400, 86401, 9998, 9999, 10000, 1<<20 - 1, 1 << 20, 1<<20 + 1, 1 << 32, 253402300799, 253402300800, math.MaxInt - 1, math.MaxInt}

// numberFields are all fields of a source that are numbers, those of line i.
func numberFields(i int) []func(z *api.Source) *int {
	return []func(z *api.Source) *int{
		func(z *api.Source) *int { return &z.Base.Offset },
		func(z *api.Source) *int { return &z.Lines[i].Kind },
		func(z *api.Source) *int { return &z.Lines[i].Sec },
		func(z *api.Source) *int { return &z.Lines[i].From },
		func(z *api.Source) *int { return &z.Lines[i].To },
		func(z *api.Source) *int { return &z.Lines[i].Month },
		func(z *api.Source) *int { return &z.Lines[i].Day.Kind },
		func(z *api.Source) *int { return &z.Lines[i].Day.N },
		func(z *api.Source) *int { return &z.Lines[i].Day.W },
		func(z *api.Source) *int { return &z.Lines[i].Time },
		func(z *api.Source) *int { return &z.Lines[i].Read },
		func(z *api.Source) *int { return &z.Lines[i].Triple.Offset },
	}
}

// 15.2: each number alone at all edges, and with each other at the edges around it

func TestCheckNumbers(t *testing.T) {
	for i := range 3 {
		fields := numberFields(i)
		for _, field := range fields {
			for _, n := range numbers {
				z := sample()
				*field(&z) = n
				holdSource(t, z)
				for _, other := range fields {
					for _, m := range numbers {
						z := sample()
						*field(&z) = n
						*other(&z) = m
						holdSource(t, z)
					}
				}
			}
		}
	}
}

// changes are such as make a source wrong, for each error some, and some that do not.
func changes() []change {
	out := []change{
		func(z *api.Source) { z.Lines = append(z.Lines, slices.Repeat(sample().Lines[:1], 13)...) },
		func(z *api.Source) { z.Lines = append(z.Lines, slices.Repeat(sample().Lines[:1], 14)...) },
		func(z *api.Source) { z.Lines = append(z.Lines, slices.Repeat(sample().Lines[2:], 3)...) },
		func(z *api.Source) { z.Lines = append(z.Lines, slices.Repeat(sample().Lines[2:], 4)...) },
		func(z *api.Source) { z.Lines = append(z.Lines, api.Line{}) },
		func(z *api.Source) { z.Lines = nil },
		func(z *api.Source) { z.Lines = []api.Line{} },
		func(z *api.Source) { z.Base = api.Triple{} },
		func(z *api.Source) { z.Base.Dst = true },
		func(z *api.Source) { *z = api.Source{} },
	}
	for _, s := range []string{"", "a b", "a.b", "\n", "é", strings.Repeat("a", 32), strings.Repeat("a", 33), "_-/09azAZ", "#", "a\x00", "\xff", strings.Repeat("a", 1<<16)} {
		out = append(out, func(z *api.Source) { z.Name = s })
	}
	for _, s := range []string{"", "A1", "abcdef", "abcdefg", "A B", "\n", "é", "zZ", "+00", "-"} {
		out = append(out, func(z *api.Source) { z.Base.Abbr = s })
		for i := range 3 {
			out = append(out, func(z *api.Source) {
				if i < len(z.Lines) {
					z.Lines[i].Triple.Abbr = s
				}
			})
		}
	}
	for i := range 3 {
		for _, field := range numberFields(i) {
			for _, n := range []int{math.MinInt, -1, 0, 1, 1 << 20, 1 << 40} {
				out = append(out, func(z *api.Source) {
					if i < len(z.Lines) {
						*field(z) = n
					}
				})
			}
		}
	}
	return out
}

// 15.2: each change alone, and with each other: the least number counts

func TestCheckPairs(t *testing.T) {
	all := changes()
	for _, first := range all {
		for _, second := range all {
			z := sample()
			first(&z)
			second(&z)
			holdSource(t, z)
		}
	}
}

// 15.2: by hand, with what the document says of each error

func TestCheckByHand(t *testing.T) {
	at := func(l api.Line) change { return func(z *api.Source) { z.Lines[0] = l } }
	rule := func(f func(l *api.Line)) change { return func(z *api.Source) { f(&z.Lines[1]) } }
	b := api.Triple{Abbr: "B"}
	for i, c := range []struct {
		change change
		e      api.Errno
	}{
		{func(*api.Source) {}, api.OK},
		{func(z *api.Source) { z.Name = "" }, api.ErrSyntax},
		{func(z *api.Source) { z.Base.Abbr = "" }, api.ErrSyntax},
		{func(z *api.Source) { z.Base.Abbr, z.Base.Dst = "", true }, api.ErrSyntax},
		{func(z *api.Source) { z.Lines[2].Triple.Abbr = "D1" }, api.ErrSyntax},
		{func(z *api.Source) { z.Lines[2] = api.Line{} }, api.ErrSyntax}, // its letters ahead of its kind
		{func(z *api.Source) { z.Lines[2] = api.Line{Triple: b} }, api.ErrBadArg},
		{func(z *api.Source) { z.Base.Dst = true }, api.ErrBadArg},
		{func(z *api.Source) { z.Base.Dst, z.Base.Offset = true, 64801 }, api.ErrBadArg},
		{func(z *api.Source) { z.Base.Offset = 64801 }, api.ErrRange},
		{func(z *api.Source) { z.Base.Offset = -64801 }, api.ErrRange},
		{func(z *api.Source) { z.Base.Offset = -64800 }, api.OK},
		{func(z *api.Source) { z.Lines[2].Triple.Offset = -64801 }, api.ErrRange},
		{at(api.Line{Kind: 1, Triple: b}), api.OK},
		{at(api.Line{Kind: 1, Sec: -377705116800, Triple: b}), api.OK},
		{at(api.Line{Kind: 1, Sec: 253402300799, Triple: b}), api.OK},
		{at(api.Line{Kind: 1, Sec: -377705116801, Triple: b}), api.ErrRange},
		{at(api.Line{Kind: 1, Sec: 253402300800, Triple: b}), api.ErrRange},
		{at(api.Line{Kind: 1, Sec: 253402300800, To: 1, Triple: b}), api.ErrBadArg},
		{at(api.Line{Kind: 1, From: 1, Triple: b}), api.ErrBadArg},
		{at(api.Line{Kind: 1, To: api.Forever, Triple: b}), api.ErrBadArg},
		{at(api.Line{Kind: 1, Month: 1, Triple: b}), api.ErrBadArg},
		{at(api.Line{Kind: 1, Day: api.Day{N: 1}, Triple: b}), api.ErrBadArg},
		{at(api.Line{Kind: 1, Time: 1, Triple: b}), api.ErrBadArg},
		{at(api.Line{Kind: 1, Read: 1, Triple: b}), api.ErrBadArg},
		{at(api.Line{Kind: 3, Triple: b}), api.ErrBadArg},
		{at(api.Line{Kind: -1, Triple: b}), api.ErrBadArg},
		{rule(func(l *api.Line) { l.Sec = 1 }), api.ErrBadArg},
		{rule(func(l *api.Line) { l.Sec = math.MaxInt }), api.ErrBadArg},
		{rule(func(l *api.Line) { l.From = -9999 }), api.OK},
		{rule(func(l *api.Line) { l.From = -10000 }), api.ErrBadArg},
		{rule(func(l *api.Line) { l.From = 6 }), api.OK},
		{rule(func(l *api.Line) { l.From = 7 }), api.ErrBadArg},
		{rule(func(l *api.Line) { l.To = 9999 }), api.OK},
		{rule(func(l *api.Line) { l.To = 10000 }), api.ErrBadArg},
		{rule(func(l *api.Line) { l.From, l.To = 9999, api.Forever }), api.OK},
		{rule(func(l *api.Line) { l.From, l.To = 10000, api.Forever }), api.ErrBadArg},
		{rule(func(l *api.Line) { l.From, l.To = api.Forever, api.Forever }), api.ErrBadArg},
		{rule(func(l *api.Line) { l.To = api.Forever - 1 }), api.ErrBadArg},
		{rule(func(l *api.Line) { l.Month = 0 }), api.ErrBadArg},
		{rule(func(l *api.Line) { l.Month = 13 }), api.ErrBadArg},
		{rule(func(l *api.Line) { l.Day = api.Day{} }), api.ErrBadArg},
		{rule(func(l *api.Line) { l.Day = api.Day{N: 31, W: 1} }), api.ErrBadArg},
		{rule(func(l *api.Line) { l.Day = api.Day{N: 32} }), api.ErrBadArg},
		{rule(func(l *api.Line) { l.Day = api.Day{N: 31}; l.Month = 2 }), api.OK}, // no day of any year, but a rule
		{rule(func(l *api.Line) { l.Day = api.Day{Kind: 1, N: 1, W: 7} }), api.ErrBadArg},
		{rule(func(l *api.Line) { l.Day = api.Day{Kind: 1, W: 8} }), api.ErrBadArg},
		{rule(func(l *api.Line) { l.Day = api.Day{Kind: 2, N: 31, W: 7} }), api.OK},
		{rule(func(l *api.Line) { l.Day = api.Day{Kind: 2, N: 1} }), api.ErrBadArg},
		{rule(func(l *api.Line) { l.Day = api.Day{Kind: 3, W: 1} }), api.ErrBadArg},
		{rule(func(l *api.Line) { l.Day = api.Day{Kind: 4, N: 1, W: 1} }), api.ErrBadArg},
		{rule(func(l *api.Line) { l.Time = 86400 }), api.OK},
		{rule(func(l *api.Line) { l.Time = 86401 }), api.ErrBadArg},
		{rule(func(l *api.Line) { l.Time = -1 }), api.ErrBadArg},
		{rule(func(l *api.Line) { l.Read = 64800 }), api.OK},
		{rule(func(l *api.Line) { l.Read = 64801 }), api.ErrBadArg},
		{rule(func(l *api.Line) { l.Read = -64801 }), api.ErrBadArg},
		{rule(func(l *api.Line) { l.Read, l.Triple.Offset = -64801, -64801 }), api.ErrBadArg},
		{rule(func(l *api.Line) { l.Read, l.Triple.Abbr = -64801, "" }), api.ErrSyntax},
	} {
		z := sample()
		c.change(&z)
		if e := rules.Check(z); e != c.e {
			t.Errorf("%d: Check(%v) = %d, want %d", i, z, e, c.e)
		}
		holdCheck(t, z, c.e)
	}
}

// 15.2: as many lines and rules without an end as may be, one more, and very many, whatever they are

func TestCheckTooBig(t *testing.T) {
	for _, one := range []api.Line{sample().Lines[0], sample().Lines[1], {}, {Kind: 2, To: 1 << 20}} {
		for n := range 20 {
			z := sample()
			z.Lines = slices.Repeat([]api.Line{one}, n)
			holdSource(t, z)
			z.Lines = append(z.Lines, slices.Repeat(sample().Lines[2:], 4)...)
			holdSource(t, z)
		}
		z := sample()
		z.Lines = slices.Repeat([]api.Line{one}, 1<<18)
		holdCheck(t, z, api.ErrTooBig)
		z.Name, z.Base = "", api.Triple{Offset: 1 << 40, Dst: true}
		holdCheck(t, z, api.ErrTooBig)
	}
	for n := range 10 {
		z := sample()
		z.Lines = slices.Repeat(z.Lines[2:], n)
		e := api.OK
		if n > 4 {
			e = api.ErrTooBig
		}
		holdCheck(t, z, e)
		for i := range z.Lines { // a rule that may not be is one all the same
			z.Lines[i].Month = 13
			holdSource(t, z)
		}
		for i := range z.Lines { // but a LineAt is none
			z.Lines[i].Kind = 1
			holdSource(t, z)
		}
	}
}

// 15.2: by hand: words and blanks, seconds of Times, only, lines' ends

func TestShow(t *testing.T) {
	s, e := rules.Show(sample())
	want := "zone A\nbase +00:00 U\nat 1970-01-01T00:00:07 +01:00 dst B\n" +
		"rule 5 6 mar last-sun 01:00 -00:01 +00:00 std C\nrule -5 on dec mon<=31 00:00:01 +00:00:01 -00:00:01 dst D\n"
	if s != want || e != api.OK {
		t.Errorf("%q, %d", s, e)
	}
	z, _, _ := rules.Parse(full + "# x\n\n")
	s, e = rules.Show(z)
	want = land + "at 1940-04-01T02:00:00 +02:00 dst X\nrule 2000 only feb 29 24:00 -18:00 +00:00 std Y\n" +
		"rule -9999 9999 dec sun>=8 23:59:59 +18:00 -18:00 dst ABCDEF\nrule 0 on jul mon<=31 00:00 -00:00:01 +05:45 std z\n"
	if s != want || e != api.OK {
		t.Errorf("%q, %d", s, e)
	}
	for text, line := range map[string]string{
		"rule 7 7 jan 1 09:05:00 +01:00:00 +00:00:00 std A":   "rule 7 only jan 1 09:05 +01:00 +00:00 std A",
		"rule 7 8 jan 1 00:00:00 +00:00 +00:00 std A":         "rule 7 8 jan 1 00:00 +00:00 +00:00 std A",
		"rule  -1\tonly may 9 24:00:00 +00:00 +00:00 dst A #": "rule -1 only may 9 24:00 +00:00 +00:00 dst A",
		"at 0000-03-01T00:00:00 +00:00:00 std A":              "at 0000-03-01T00:00:00 +00:00 std A",
		"at -0001-12-31T23:59:59 +10:00:10 std A":             "at -0001-12-31T23:59:59 +10:00:10 std A",
		"at -9999-01-01T00:00:00 +00:00 std A":                "at -9999-01-01T00:00:00 +00:00 std A",
		"at 9999-12-31T23:59:59 +00:00 std A":                 "at 9999-12-31T23:59:59 +00:00 std A",
	} {
		z, _, _ := rules.Parse(head + text)
		if s, e := rules.Show(z); s != head+line+"\n" || e != api.OK {
			t.Errorf("%s: %q, %d", text, s, e)
		}
	}
}

// 15.2 and 15.3: a greatest source has not too many words or bytes to be read again

func TestGreatest(t *testing.T) {
	z := sample()
	z.Name, z.Base = strings.Repeat("a", 32), api.Triple{Offset: -64799, Abbr: "abcdef"}
	greatest := api.Line{Kind: 2, From: -9999, To: -9998, Month: 12, Day: api.Day{Kind: 1, W: 7}, Time: 86399, Read: -64799, Triple: api.Triple{Offset: -64799, Dst: true, Abbr: "abcdef"}}
	z.Lines = slices.Repeat([]api.Line{greatest}, 16)
	holdCheck(t, z, api.OK)
}

// 15.3: all days, times, offsets and months, and moments of all years, at months' ends and between

func TestThereAndBack(t *testing.T) {
	z := sample()
	l := &z.Lines[1]
	for d := range dayWords {
		l.Day = d
		l.Month = l.Month%12 + 1
		holdBack(t, z)
	}
	for n := 0; n <= 86400; n += 7 {
		l.Time = n
		l.Read = n/2 - 7*3600
		holdBack(t, z)
	}
	for n := 86300; n <= 86400; n++ {
		l.Time = n
		holdBack(t, z)
	}
	for n := -64800; n <= 64800; n += 11 {
		l.Read, l.Triple.Offset, z.Base.Offset = n, -n, n/2
		holdBack(t, z)
	}
}

func TestMoments(t *testing.T) {
	z := sample()
	hold := func(sec int) {
		t.Helper()
		z.Lines = z.Lines[:0]
		for i := max(sec-2, api.MinSec); i <= min(sec+2, api.MaxSec); i++ {
			z.Lines = append(z.Lines, api.Line{Kind: 1, Sec: i, Triple: api.Triple{Abbr: "B"}})
		}
		holdBack(t, z)
	}
	for y := -9999; y <= 10000; y++ {
		for _, m := range []time.Month{1, time.Month(2 + (y+9999)%11)} {
			hold(int(time.Date(y, m, 1, 0, 0, 0, 0, time.UTC).Unix()))
		}
		hold(int(time.Date(y, 2, 28, 23, 59, 59, 0, time.UTC).Unix()))
	}
	for _, y := range []int{-9999, -400, -100, -4, -1, 0, 1, 4, 100, 400, 1582, 1900, 1970, 2000, 2023, 2024, 9999} {
		for d := range 366 {
			hold(int(time.Date(y, 1, 1+d, d%24, d%60, d%59, 0, time.UTC).Unix()))
		}
	}
}

// R4 and R5: lists are not changed, nor what lies behind their ends; the same answer again

func TestSourceKept(t *testing.T) {
	whole := append(sample().Lines, sample().Lines...)
	kept := slices.Clone(whole)
	z := sample()
	z.Lines = whole[:2]
	first, _ := rules.Show(z)
	rules.Check(z)
	rules.Show(api.Source{})
	second, _ := rules.Show(z)
	if first != second || first != dueShow(z) {
		t.Errorf("%q, %q", first, second)
	}
	if !slices.Equal(whole, kept) {
		t.Errorf("%v", whole)
	}
	empty := z
	for _, lines := range [][]api.Line{nil, {}, whole[:0]} {
		empty.Lines = lines
		holdCheck(t, empty, api.OK)
	}
}
