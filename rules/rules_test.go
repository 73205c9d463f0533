package rules_test

// Each test names what it holds of promises 15.1 to 15.3 (shared/doc/15-rules.md).
// What Parse should answer is told by the library's cuts of texts into lines and words, each line's
// errors being listed in the document's order; what words tell is chapter 14's, and is held by hand too.

import (
	"slices"
	"strings"
	"testing"

	"analemma/api"
	"analemma/lex"
	"analemma/rules"
	"analemma/words"
)

const (
	head = "zone A\nbase +00:00 U\n"
	at   = "at 2024-02-29T12:34:56 +01:00 dst X"
	rule = "rule 2 3 jan 1 00:00 +00:00 +00:00 std A"
	tail = "rule 2 on jan 1 00:00 +00:00 +00:00 std A"
	land = "zone Mid/Land\nbase +01:00 CET\n" +
		"rule 1996 on mar last-sun 01:00 +00:00 +02:00 dst CEST\nrule 1996 on oct last-sun 01:00 +00:00 +01:00 std CET\n"
	full = land + "at 1940-04-01T02:00:00 +02:00 dst X\nrule 2000 only feb 29 24:00 -18:00 +00:00 std Y\n" +
		"rule -9999 9999 dec sun>=8 23:59:59 +18:00 -18:00:00 dst ABCDEF\nrule 0 on jul mon<=31 00:00:00 -00:00:01 +05:45 std z\n"
)

var monthWords = strings.Fields("jan feb mar apr may jun jul aug sep oct nov dec")

// worded is a line that has words.
type worded struct {
	number int
	words  []string
}

func cut(s string) []worded {
	var out []worded
	for i, line := range strings.Split(s, "\n") {
		line, _, _ = strings.Cut(line, "#")
		if w := strings.Fields(line); len(w) > 0 {
			out = append(out, worded{i + 1, w})
		}
	}
	return out
}

// dueZone adds a first line, and tells its errors in the document's order.
func dueZone(z *api.Source, w []string) []api.Errno {
	if w[0] != "zone" || len(w) != 2 {
		return []api.Errno{api.ErrSyntax}
	}
	z.Name = w[1]
	return []api.Errno{words.Name(w[1])}
}

// dueBase does so with a second line.
func dueBase(z *api.Source, w []string) []api.Errno {
	if w[0] != "base" || len(w) != 3 {
		return []api.Errno{api.ErrSyntax}
	}
	n, e := words.Offset(w[1])
	z.Base = api.Triple{Offset: n, Abbr: w[2]}
	return []api.Errno{e, words.Abbr(w[2])}
}

// dueThird does so with all lines behind these.
func dueThird(z *api.Source, w []string) []api.Errno {
	ons := 0
	for _, l := range z.Lines {
		if l.Kind == 2 && l.To == 1<<20 {
			ons++
		}
	}
	isAt, isRule := w[0] == "at" && len(w) == 5, w[0] == "rule" && len(w) == 10
	switch {
	case len(z.Lines) >= 16 || isRule && w[2] == "on" && ons >= 4:
		return []api.Errno{api.ErrTooBig}
	case isAt:
		return dueAt(z, w)
	case isRule:
		return dueRule(z, w)
	}
	return []api.Errno{api.ErrSyntax}
}

func dueAt(z *api.Source, w []string) []api.Errno {
	sec, e := words.Moment(w[1])
	t, faults := dueTriple(w[2:])
	z.Lines = append(z.Lines, api.Line{Kind: 1, Sec: sec, Triple: t})
	return append([]api.Errno{e}, faults...)
}

func dueRule(z *api.Source, w []string) []api.Errno {
	l := api.Line{Kind: 2, To: 1 << 20, Month: slices.Index(monthWords, w[3]) + 1}
	var e [7]api.Errno
	l.From, e[0] = words.Year(w[1])
	switch w[2] {
	case "only":
		l.To = l.From
	case "on":
	default:
		l.To, e[1] = words.Year(w[2])
	}
	if l.Month == 0 {
		e[2] = api.ErrSyntax
	}
	l.Day, e[3] = words.Day(w[4])
	l.Time, e[4] = words.Time(w[5])
	l.Read, e[5] = words.Offset(w[6])
	t, faults := dueTriple(w[7:])
	l.Triple = t
	if l.From > l.To {
		e[6] = api.ErrBadArg
	}
	z.Lines = append(z.Lines, l)
	return slices.Concat(e[:6], faults, e[6:])
}

func dueTriple(w []string) (api.Triple, []api.Errno) {
	n, e := words.Offset(w[0])
	mark := api.OK
	if w[1] != "std" && w[1] != "dst" {
		mark = api.ErrSyntax
	}
	return api.Triple{Offset: n, Dst: w[1] == "dst", Abbr: w[2]}, []api.Errno{e, mark, words.Abbr(w[2])}
}

// due is what Parse must answer.
func due(s string) (api.Source, int, api.Errno) {
	if _, e := lex.Lex(s); e != api.OK {
		return api.Source{}, 0, e
	}
	var z api.Source
	lines := cut(s)
	for i, l := range lines {
		kind := []func(*api.Source, []string) []api.Errno{dueZone, dueBase, dueThird}[min(i, 2)]
		for _, e := range kind(&z, l.words) {
			if e != api.OK {
				return api.Source{}, l.number, e
			}
		}
	}
	if len(lines) < 2 {
		return api.Source{}, 0, api.ErrSyntax
	}
	return z, 0, api.OK
}

func same(a, b api.Source) bool {
	return a.Name == b.Name && a.Base == b.Base && slices.Equal(a.Lines, b.Lines)
}

func hold(t *testing.T, s string, want api.Source, wantN int, wantE api.Errno) {
	t.Helper()
	z, n, e := rules.Parse(s)
	if !same(z, want) || n != wantN || e != wantE {
		t.Fatalf("Parse(%.400q):\n%v, %d, %d, want\n%v, %d, %d", s, z, n, e, want, wantN, wantE)
	}
}

// holdDue holds Parse of s against due, and 15.3 and T5 where s is one.
func holdDue(t *testing.T, s string) {
	t.Helper()
	want, n, e := due(s)
	hold(t, s, want, n, e)
	if e == api.OK {
		holdBack(t, want)
	}
}

func holdFault(t *testing.T, s string, n int, e api.Errno) {
	t.Helper()
	hold(t, s, api.Source{}, n, e)
	holdDue(t, s)
}

// 15.1: what lines tell, by hand

func TestByHand(t *testing.T) {
	zero := api.Triple{Abbr: "U"}
	line := func(l api.Line) api.Source { return api.Source{Name: "A", Base: zero, Lines: []api.Line{l}} }
	for s, want := range map[string]api.Source{
		head:                                          {Name: "A", Base: zero},
		"zone A\nbase +00:00 U":                       {Name: "A", Base: zero},
		"\tzone  A # x\n\n#\nbase\t+00:00 U#":         {Name: "A", Base: zero},
		"zone _-/9\nbase -18:00 abcdef":               {Name: "_-/9", Base: api.Triple{Offset: -64800, Abbr: "abcdef"}},
		"zone zone\nbase +00:00 base":                 {Name: "zone", Base: api.Triple{Abbr: "base"}},
		head + "at 1970-01-01T00:00:00 +00:00 std A":  line(api.Line{Kind: 1, Triple: api.Triple{Abbr: "A"}}),
		head + "at -9999-01-01T00:00:00 -18:00 dst A": line(api.Line{Kind: 1, Sec: -377705116800, Triple: api.Triple{Offset: -64800, Dst: true, Abbr: "A"}}),
		head + "at 9999-12-31T23:59:59 +18:00 std at": line(api.Line{Kind: 1, Sec: 253402300799, Triple: api.Triple{Offset: 64800, Abbr: "at"}}),
		head + "rule 2024 only feb 29 02:30 +01:00 +02:00 dst B": line(api.Line{
			Kind: 2, From: 2024, To: 2024, Month: 2, Day: api.Day{N: 29}, Time: 9000, Read: 3600, Triple: api.Triple{Offset: 7200, Dst: true, Abbr: "B"}}),
		head + "rule -9999 on jan 31 24:00 -18:00 +18:00 std on": line(api.Line{
			Kind: 2, From: -9999, To: 1048576, Month: 1, Day: api.Day{N: 31}, Time: 86400, Read: -64800, Triple: api.Triple{Offset: 64800, Abbr: "on"}}),
		head + "rule -1 9999 dec last-fri 00:00:01 +00:00:01 -00:00:01 dst dst": line(api.Line{
			Kind: 2, From: -1, To: 9999, Month: 12, Day: api.Day{Kind: 1, W: 5}, Time: 1, Read: 1, Triple: api.Triple{Offset: -1, Dst: true, Abbr: "dst"}}),
		head + "rule 0 0 sep sun>=8 00:00 +00:00 +00:00 std only": line(api.Line{
			Kind: 2, Month: 9, Day: api.Day{Kind: 2, N: 8, W: 7}, Triple: api.Triple{Abbr: "only"}}),
		head + "rule 9999 on nov mon<=31 00:00 +00:00 +00:00 std std": line(api.Line{
			Kind: 2, From: 9999, To: 1048576, Month: 11, Day: api.Day{Kind: 3, N: 31, W: 1}, Triple: api.Triple{Abbr: "std"}}),
	} {
		hold(t, s, want, 0, api.OK)
		holdDue(t, s)
	}
	for i, name := range monthWords {
		hold(t, head+"rule 5 6 "+name+" 1 00:00 +00:00 +00:00 std A", line(api.Line{
			Kind: 2, From: 5, To: 6, Month: i + 1, Day: api.Day{N: 1}, Triple: api.Triple{Abbr: "A"}}), 0, api.OK)
	}
}

// 15.1: lines of the third kind in any order, each as it stands

func TestOrder(t *testing.T) {
	lines := strings.Split(strings.TrimSpace(full), "\n")[2:]
	for i := range lines {
		for j := range lines {
			for k := range lines {
				holdDue(t, head+lines[i]+"\n"+lines[j]+"\n"+lines[k])
			}
		}
	}
	z, _, e := rules.Parse(head + at + "\n" + rule + "\n" + at + "\n" + at)
	if e != api.OK || len(z.Lines) != 4 || z.Lines[0] != z.Lines[2] || z.Lines[2] != z.Lines[3] || z.Lines[0].Kind != 1 || z.Lines[1].Kind != 2 {
		t.Errorf("%v, %d", z, e)
	}
}

// 15.1: Lex's errors, with line 0, whatever lines have

func TestLexErrors(t *testing.T) {
	for s, e := range map[string]api.Errno{
		"\r":                       api.ErrSyntax,
		full + "# \x00":            api.ErrSyntax,
		full + "é":                 api.ErrSyntax,
		"zone A\r\nbase +00:00 U":  api.ErrSyntax,
		"x\n\x7f":                  api.ErrSyntax,
		strings.Repeat(" ", 4097):  api.ErrTooBig,
		strings.Repeat("x", 4097):  api.ErrTooBig,
		strings.Repeat("x ", 1024): api.ErrTooBig,
		full + strings.Repeat("#", 4097-len(full)):            api.ErrTooBig,
		head + "rule 2 1 jan 1 00:00 +00:00 +00:00 std A\n\v": api.ErrSyntax,
		head + strings.Repeat("rule\n", 520):                  api.ErrTooBig,
		"zone\n" + strings.Repeat("\xff\n", 511):              api.ErrSyntax,
		"zone\n" + strings.Repeat("\xff\n", 511) + "\x00":     api.ErrTooBig,
		strings.Repeat(full, 1<<12):                           api.ErrTooBig,
	} {
		holdFault(t, s, 0, e)
	}
	holdDue(t, full+strings.Repeat("#", 4096-len(full)))
	holdDue(t, "zone A\nbase +00:00 "+strings.Repeat("x ", 1019)) // as many tokens as may be
}

// 15.1: no first line, or no second one: line 0; but an error of the first one ahead of that

func TestNoLines(t *testing.T) {
	for _, s := range []string{"", " ", "\n", "\n\n \t\n", "#", "# zone A\n# base +00:00 U", "zone A", "zone A\n", "\n\nzone A # x\n\n", "zone A\n# base +00:00 U\n", "zone A # base +00:00 U"} {
		holdFault(t, s, 0, api.ErrSyntax)
	}
	for _, s := range []string{"zone", "zone A B", "zone A base +00:00 U", "zone a.b", "base +00:00 U", at, rule, tail, "Zone A", "x"} {
		holdFault(t, s, 1, api.ErrSyntax)
		holdFault(t, "\n# x\n\n"+s+"\n\n", 4, api.ErrSyntax)
		holdFault(t, s+"\n"+head, 1, api.ErrSyntax)
	}
}

// 15.1: first and second lines that do not begin as they must, have too few or too many words, or wrong ones

func TestHeads(t *testing.T) {
	for _, s := range []string{
		"zone", "zone A B", "ZONE A", "zones A", "zon A", "A zone", "base A", "zone:A",
		"zone a.b", "zone a+b", "zone " + strings.Repeat("a", 33), "zone A;", `zone "A"`,
	} {
		holdFault(t, s+"\nbase +00:00 U\n"+rule, 1, api.ErrSyntax)
		holdFault(t, "\n\n"+s+"\nbase", 3, api.ErrSyntax)
	}
	hold(t, "zone "+strings.Repeat("a", 32)+"\nbase +00:00 U", api.Source{Name: strings.Repeat("a", 32), Base: api.Triple{Abbr: "U"}}, 0, api.OK)
	for s, e := range map[string]api.Errno{
		"base": api.ErrSyntax, "base +00:00": api.ErrSyntax, "base +00:00 U V": api.ErrSyntax, "base +00:00 std U": api.ErrSyntax,
		"BASE +00:00 U": api.ErrSyntax, "based +00:00 U": api.ErrSyntax, "zone +00:00 U": api.ErrSyntax, "+00:00 base U": api.ErrSyntax,
		"base U +00:00": api.ErrSyntax, "base -00:00 U": api.ErrSyntax, "base 00:00 U": api.ErrSyntax, "base +0:00 U": api.ErrSyntax, "base +00:60 U": api.ErrSyntax,
		"base +00:00 U1": api.ErrSyntax, "base +00:00 abcdefg": api.ErrSyntax, "base +00:00 +00": api.ErrSyntax,
		"base +18:00:01 U": api.ErrRange, "base -19:00 U": api.ErrRange,
		"base +19:00 U1": api.ErrRange, // the first from the left on, not the least
		"base +19:00":    api.ErrSyntax,
		"zone A":         api.ErrSyntax, "zone A\nbase +00:00 U": api.ErrSyntax,
		at: api.ErrSyntax, rule: api.ErrSyntax, tail: api.ErrSyntax, "at": api.ErrSyntax, "rule": api.ErrSyntax, "x": api.ErrSyntax,
	} {
		holdFault(t, "zone A\n"+s, 2, e)
		holdFault(t, "zone A\n"+s+"\nbase +00:00 U\n"+rule, 2, e)
		holdFault(t, "# x\nzone A\n\n \n"+s+" # x\nx", 5, e)
	}
}

// 15.1: third lines that do not begin as they must, or have too few or too many words

func TestCounts(t *testing.T) {
	for _, line := range []string{at, rule, tail} {
		w := strings.Fields(line)
		for n := 1; n < len(w); n++ {
			holdFault(t, head+strings.Join(w[:n], " "), 3, api.ErrSyntax)
			holdFault(t, head+strings.Join(w[n:], " "), 3, api.ErrSyntax)
			holdFault(t, head+"\n"+line+"\n"+strings.Join(w[:n], " ")+"\n"+strings.Join(w[n:], " "), 5, api.ErrSyntax)
		}
		holdFault(t, head+line+" A", 3, api.ErrSyntax)
		holdFault(t, head+line+" "+line, 3, api.ErrSyntax)
		holdFault(t, head+strings.ToUpper(line), 3, api.ErrSyntax)
		holdFault(t, head+"x"+line, 3, api.ErrSyntax)
		holdFault(t, head+"x "+line, 3, api.ErrSyntax)
		holdFault(t, head+"link"+line[strings.Index(line, " "):], 3, api.ErrSyntax)
	}
	holdFault(t, head+head, 3, api.ErrSyntax)
	holdFault(t, head+rule+"\nbase +00:00 U", 4, api.ErrSyntax)
	holdFault(t, head+"rule"+strings.TrimPrefix(at, "at"), 3, api.ErrSyntax)
	holdFault(t, head+"at"+strings.TrimPrefix(rule, "rule"), 3, api.ErrSyntax)
	holdFault(t, head+"rule x on\n", 3, api.ErrSyntax)
}

// column is, of one of a line's words, wrong ones with their errors.
type column map[string]api.Errno

var offsets = column{"00:00": 2, "-00:00": 2, "+0:00": 2, "+00:60": 2, "+00:00:0": 2, "x": 2, "std": 2, "+18:00:01": 8, "-18:01": 8, "+99:00": 8}
var marks = column{"std1": 2, "STD": 2, "Dst": 2, "0": 2, "s": 2, "on": 2, "A": 2, "std,dst": 2}
var abbrs = column{"A1": 2, "abcdefg": 2, "+00": 2, "A-B": 2, "A_": 2, "9": 2}

var atColumns = []column{
	{"2024-02-29": 2, "-0000-01-01T00:00:00": 2, "2024-1-01T00:00:00": 2, "12024-01-01T00:00:00": 2, "+2024-01-01T00:00:00": 2, "x": 2,
		"2024-01-01T24:00:00": 5, "2024-01-01T00:60:00": 5, "2024-01-01T00:00:60": 5, "2023-02-29T24:00:00": 5,
		"2023-02-29T00:00:00": 7, "2024-13-01T00:00:00": 7, "2024-00-01T00:00:00": 7, "2024-04-31T00:00:00": 7},
	offsets, marks, abbrs,
}

var ruleColumns = []column{
	{"x": 2, "02": 2, "+2": 2, "-0": 2, "2024.": 2, "1000000": 2, "only": 2, "on": 2, "10000": 8, "-10000": 8, "1048576": 2, "999999": 8},
	{"x": 2, "03": 2, "+3": 2, "-0": 2, "1000000": 2, "Only": 2, "ON": 2, "o": 2, "1048576": 2, "forever": 2, "-": 2, "10000": 8, "-10000": 8, "999999": 8},
	{"jon": 2, "Jan": 2, "JAN": 2, "january": 2, "ja": 2, "1": 2, "01": 2, "mon": 2, "janfeb": 2, "xyz": 2},
	{"x": 2, "01": 2, "mon": 2, "last-": 2, "last-xyz": 2, "last-1": 2, "sun>8": 2, "sun=8": 2, "sun>=": 2, "sun>=08": 2, "Sun>=8": 2, "last-Sun": 2,
		"0": 8, "32": 8, "-1": 8, "sun>=0": 8, "sun<=32": 8, "sun>=-1": 8},
	{"x": 2, "0:00": 2, "00:60": 2, "00:00:60": 2, "24:60": 2, "0000": 2, "+00:00": 2, "00:00u": 2, "24:00:01": 8, "24:01": 8, "25:00": 8, "99:59:59": 8},
	offsets, offsets, marks, abbrs,
}

// with is a line with other words at some places.
func with(line string, at map[int]string) string {
	w := strings.Fields(line)
	for i, word := range at {
		w[i] = word
	}
	return strings.Join(w, " ")
}

// 15.1: each wrong word alone, and with each other: the first from the left on tells the error; falling years behind all

func TestWords(t *testing.T) {
	falls := with(rule, map[int]string{1: "4"})
	lines := map[string][]column{at: atColumns, rule: ruleColumns, tail: ruleColumns, falls: ruleColumns}
	for line, columns := range lines {
		for i, left := range columns {
			for word, e := range left {
				holdFault(t, head+with(line, map[int]string{i + 1: word}), 3, e)
				for j := i + 1; j < len(columns); j++ {
					for other := range columns[j] {
						holdFault(t, head+with(line, map[int]string{i + 1: word, j + 1: other}), 3, e)
					}
				}
			}
		}
	}
}

// 15.1: years that fall, and such as do not

func TestYears(t *testing.T) {
	years := []string{"-9999", "-9998", "-10", "-1", "0", "1", "9", "10", "2024", "9998", "9999"}
	for i, from := range years {
		for j, to := range years {
			s := head + with(rule, map[int]string{1: from, 2: to})
			if j < i {
				holdFault(t, s, 3, api.ErrBadArg)
				continue
			}
			z, n, e := rules.Parse(s)
			if n != 0 || e != api.OK || len(z.Lines) != 1 || z.Lines[0].From > z.Lines[0].To {
				t.Fatalf("%s: %v, %d, %d", s, z, n, e)
			}
			holdDue(t, s)
		}
		for _, to := range []string{"only", "on"} {
			holdDue(t, head+with(rule, map[int]string{1: from, 2: to}))
		}
	}
}

// 15.1: the first line that has an error tells it, whatever errors the lines behind have, and its own number

func TestFirstLine(t *testing.T) {
	wrong := map[string]api.Errno{
		"x": 2, with(at, map[int]string{1: "2023-02-29T00:00:00"}): 7, with(at, map[int]string{1: "2023-01-29T24:00:00"}): 5,
		with(rule, map[int]string{2: "1"}): 5, with(rule, map[int]string{7: "+19:00"}): 8, with(tail, map[int]string{1: "-10000"}): 8,
	}
	for a, e := range wrong {
		for b := range wrong {
			holdFault(t, head+a+"\n"+b, 3, e)
			holdFault(t, head+"\n # x\n"+tail+"\n\n"+a+" # x\n"+b+"\n", 7, e)
			holdFault(t, head+strings.Repeat(a+"\n", 17)+b, 3, e)
			holdFault(t, head+a+"\n"+strings.Repeat(tail+"\n", 5), 3, e)
		}
		holdFault(t, "zone A\nbase +19:00 U\n"+a, 2, api.ErrRange)
	}
}

// 15.1: MaxLines lines of the third kind, and one more, whatever it has; an error ahead of it counts

func TestMaxLines(t *testing.T) {
	for _, line := range []string{at, rule} {
		sixteen := head + strings.Repeat(line+"\n", 16)
		z, n, e := rules.Parse(sixteen)
		if len(z.Lines) != 16 || n != 0 || e != api.OK {
			t.Fatalf("%d lines, %d, %d", len(z.Lines), n, e)
		}
		holdDue(t, sixteen+"\n# x\n \n")
		for _, more := range []string{at, rule, tail, "at", "rule", "x", "rule x on", "zone A", with(rule, map[int]string{2: "1"}), with(at, map[int]string{2: "+19:00"})} {
			holdFault(t, sixteen+more, 19, api.ErrTooBig)
			holdFault(t, sixteen+"# x\n\n"+more+"\nx\n"+line, 21, api.ErrTooBig)
			holdFault(t, head+"x\n"+strings.Repeat(line+"\n", 16)+more, 3, api.ErrSyntax)
		}
		holdFault(t, head+strings.Repeat(line+"\n", 15)+"x\n"+line, 18, api.ErrSyntax)
	}
}

// 15.1: MaxTails rules with on, and one more that has as many words as it must, whatever these are

func TestMaxTails(t *testing.T) {
	four := head + strings.Repeat(tail+"\n", 4)
	z, n, e := rules.Parse(four)
	if len(z.Lines) != 4 || n != 0 || e != api.OK {
		t.Fatalf("%v, %d, %d", z, n, e)
	}
	holdDue(t, four+strings.Repeat(rule+"\n", 6)+strings.Repeat(at+"\n", 6))
	holdFault(t, four+tail, 7, api.ErrTooBig)
	for i, wrong := range ruleColumns {
		if i == 1 {
			continue
		}
		for word := range wrong {
			holdFault(t, four+with(tail, map[int]string{i + 1: word}), 7, api.ErrTooBig)
		}
	}
	for line, e := range map[string]api.Errno{
		tail + " A": 2, strings.TrimSuffix(tail, " A"): 2, "rule x on": 2, "x" + tail: 2, "at 2 on +00:00 std": 2, "at x on std A": 2,
		with(tail, map[int]string{0: "at"}): 2, with(tail, map[int]string{2: "On"}): 2, with(tail, map[int]string{2: "10000"}): 8, with(tail, map[int]string{2: "1"}): 5,
		with(tail, map[int]string{1: "on", 2: "3"}): 2,
	} {
		holdFault(t, four+line, 7, e)
	}
	mixed := head + strings.Repeat(at+"\n"+tail+"\n"+rule+"\n", 4)
	holdDue(t, mixed)
	holdFault(t, mixed+rule+"\n"+tail+"\n"+tail, 16, api.ErrTooBig)
	holdFault(t, mixed+"x\n"+tail, 15, api.ErrSyntax)
	holdFault(t, mixed+strings.Repeat(rule+"\n", 4)+tail, 19, api.ErrTooBig)
}

// 15.1: right texts with a word, a line or a byte gone, put in or changed

func TestDamagedWords(t *testing.T) {
	join := func(lines [][]string) string {
		var out []string
		for _, l := range lines {
			out = append(out, strings.Join(l, " "))
		}
		return strings.Join(out, "\n")
	}
	var pool []string
	var lines [][]string
	for _, l := range cut(full) {
		lines = append(lines, l.words)
		pool = append(pool, l.words...)
	}
	pool = append(pool, "x", "+19:00", "32", "10000", "25:00", "2023-02-29T00:00:00", "\n", "#", "")
	for i, line := range lines {
		holdDue(t, join(slices.Delete(slices.Clone(lines), i, i+1)))
		for j := range lines {
			holdDue(t, join(slices.Insert(slices.Clone(lines), j, line)))
			swapped := slices.Clone(lines)
			swapped[i], swapped[j] = swapped[j], swapped[i]
			holdDue(t, join(swapped))
		}
		for k := range line {
			changed := slices.Clone(lines)
			changed[i] = slices.Delete(slices.Clone(line), k, k+1)
			holdDue(t, join(changed))
			for _, word := range pool {
				changed[i] = slices.Insert(slices.Clone(line), k, word)
				holdDue(t, join(changed))
				changed[i] = slices.Clone(line)
				changed[i][k] = word
				holdDue(t, join(changed))
			}
		}
	}
}

func TestDamagedBytes(t *testing.T) {
	for i := range full {
		holdDue(t, full[:i])
		holdDue(t, full[i:])
		holdDue(t, full[:i]+full[i+1:])
		for b := range 256 {
			s := string([]byte{byte(b)})
			holdDue(t, full[:i]+s+full[i:])
			holdDue(t, full[:i]+s+full[i+1:])
		}
	}
}

// 15.1: texts of many lines, right and wrong ones mixed by a fixed row of numbers

func TestMixed(t *testing.T) {
	pool := []string{at, at, at, rule, rule, rule, tail, tail, "", "# x", "x", with(tail, map[int]string{3: "jon"}), with(rule, map[int]string{1: "4"}), with(at, map[int]string{1: "2023-02-29T00:00:00"}), tail + " A"}
	next := uint32(1)
	pick := func(n int) int {
		next = next*1664525 + 1013904223
		return int(next>>16) % n
	}
	for range 20000 {
		s := head
		right := pick(3) > 0
		for range pick(24) {
			n := len(pool)
			if right {
				n = 10
			}
			s += pool[pick(n)] + "\n"
		}
		holdDue(t, s)
	}
}

// R4 and R5: sources that share nothing, the same answer again, whatever was asked between

func TestOwnMemory(t *testing.T) {
	want, _, _ := due(full)
	first, _, _ := rules.Parse(full)
	second, _, _ := rules.Parse(full)
	for i := range first.Lines[:cap(first.Lines)] {
		first.Lines[:cap(first.Lines)][i] = api.Line{Kind: 9}
	}
	if !same(second, want) {
		t.Errorf("%v", second)
	}
	rules.Parse(head + "x")
	rules.Parse("\x00")
	hold(t, full, want, 0, api.OK)
}
