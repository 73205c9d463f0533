package lex_test

// Each test names what it holds of promises 13.1 to 13.3 (shared/doc/13-lex.md).
// What Lex should answer is told by the library's cuts of texts into lines, notes and
// words, byte by byte, beside values that are written out by hand.

import (
	"slices"
	"strings"
	"testing"

	"analemma/api"
	"analemma/lex"
)

const (
	maxText   = 4096
	maxTokens = 1024
)

// tokens are a line's: the words, and its end.
func tokens(line int, words ...string) []api.Token {
	var l []api.Token
	for _, w := range words {
		l = append(l, api.Token{Text: w, Line: line})
	}
	return append(l, api.Token{Text: "\n", Line: line})
}

func texts(l []api.Token) []string {
	var out []string
	for _, t := range l {
		out = append(out, t.Text)
	}
	return out
}

// odd is a byte that no text may have, not in a note either.
func odd(b byte) bool {
	return b != 9 && b != 10 && (b < 32 || b > 126)
}

func blank(r rune) bool {
	return r == 32 || r == 9
}

// due is what Lex must answer.
func due(s string) ([]api.Token, api.Errno) {
	var l []api.Token
	for i, line := range strings.Split(s, "\n") {
		line, _, _ = strings.Cut(line, "#")
		if words := strings.FieldsFunc(line, blank); len(words) > 0 {
			l = append(l, tokens(i+1, words...)...)
		}
	}
	bad := false
	for i := range len(s) {
		bad = bad || odd(s[i])
	}
	switch {
	case len(s) > maxText || len(l) > maxTokens:
		return nil, api.ErrTooBig
	case bad:
		return nil, api.ErrSyntax
	}
	return l, api.OK
}

func hold(t *testing.T, s string, want []api.Token, wantE api.Errno) {
	t.Helper()
	got, e := lex.Lex(s)
	if !slices.Equal(got, want) || e != wantE {
		t.Fatalf("Lex(%.60q), %d bytes: %.20v (%d), %d, want %.20v (%d), %d", s, len(s), got, len(got), e, want, len(want), wantE)
	}
}

func holdDue(t *testing.T, s string) {
	t.Helper()
	want, e := due(s)
	hold(t, s, want, e)
}

// every hands f s, and all texts that go on with up to n of the bytes.
func every(s, bytes string, n int, f func(s string)) {
	f(s)
	if n == 0 {
		return
	}
	for i := range len(bytes) {
		every(s+bytes[i:i+1], bytes, n-1, f)
	}
}

// 13.1: words, blanks, notes, lines' ends and numbers, by hand

func TestByHand(t *testing.T) {
	for _, c := range []struct {
		s    string
		want []api.Token
	}{
		{"", nil},
		{" ", nil},
		{"\t \t", nil},
		{"\n", nil},
		{"\n\n\n", nil},
		{"#", nil},
		{"# zone A", nil},
		{"#\n#\n", nil},
		{"a", tokens(1, "a")},
		{"a\n", tokens(1, "a")},
		{"a\n\n", tokens(1, "a")},
		{"\na", tokens(2, "a")},
		{"\n\n \n#\n\ta", tokens(5, "a")},
		{" a ", tokens(1, "a")},
		{"\ta\t", tokens(1, "a")},
		{"ab cd", tokens(1, "ab", "cd")},
		{"ab\tcd", tokens(1, "ab", "cd")},
		{"ab \t\t  cd", tokens(1, "ab", "cd")},
		{"a b\nc d", append(tokens(1, "a", "b"), tokens(2, "c", "d")...)},
		{"a b\n\n \t\n#x\nc d\n", append(tokens(1, "a", "b"), tokens(5, "c", "d")...)},
		{"a#b", tokens(1, "a")},
		{"a #b", tokens(1, "a")},
		{"a#", tokens(1, "a")},
		{"a##b#c", tokens(1, "a")},
		{"#a\nb", tokens(2, "b")},
		{"a#b\nc#d", append(tokens(1, "a"), tokens(2, "c")...)},
		{"a # b # c\n d", append(tokens(1, "a"), tokens(2, "d")...)},
		{"a#\nb", append(tokens(1, "a"), tokens(2, "b")...)},
		{"zone A # x\nbase +1 B", append(tokens(1, "zone", "A"), tokens(2, "base", "+1", "B")...)},
		{`!"$%&'()*+,-./0:;<=>?@AZ[\]^_` + "`az{|}~", tokens(1, `!"$%&'()*+,-./0:;<=>?@AZ[\]^_`+"`az{|}~")},
		{`a\nb`, tokens(1, `a\nb`)}, // no byte 10
	} {
		hold(t, c.s, c.want, api.OK)
	}
}

// 13.1: each byte alone, in a word, between words, at a line's begin and end, in a note

func TestEachByte(t *testing.T) {
	for b := range 256 {
		s := string([]byte{byte(b)})
		for _, text := range []string{s, s + s, "a" + s, s + "a", "a" + s + "b", "a " + s + " b", "a\n" + s + "\nb", "a " + s + "\nb", "#" + s, "a # " + s + " b\nc"} {
			holdDue(t, text)
		}
		got, e := lex.Lex("a" + s + "b")
		switch {
		case b == 9 || b == 32:
			hold(t, "a"+s+"b", tokens(1, "a", "b"), api.OK)
		case b == 10:
			hold(t, "a"+s+"b", append(tokens(1, "a"), tokens(2, "b")...), api.OK)
		case b == 35:
			hold(t, "a"+s+"b", tokens(1, "a"), api.OK)
		case b >= 33 && b <= 126:
			hold(t, "a"+s+"b", tokens(1, "a"+s+"b"), api.OK)
		case len(got) > 0 || e != api.ErrSyntax:
			t.Errorf("byte %d: %v, %d", b, got, e)
		}
	}
}

// 13.1: wrong bytes, wherever they stand; whole runes too, also such as are blanks or ends of lines elsewhere

func TestSyntax(t *testing.T) {
	for _, s := range []string{
		"a\r", "a\r\n", "\r\nzone A", "a\vb", "a\fb", "\x00", "a\x7f", "\x1f", "# \x01", "#\r\na", "a # \x7f\nb", "a\n#\x00",
		"é", "zone Zürich", "a\u00a0b", "a\u2028b", "a\u0085b", "\ufeffzone A", "# 時間", "#\xff", "\xc3", "a\x80", "\xe2\x80", "\ufffd", "\xf4\x90\x80\x80",
		strings.Repeat("a\n", 500) + "\x01",
		"\x01\n" + strings.Repeat("a\n", 500),
	} {
		hold(t, s, nil, api.ErrSyntax)
	}
}

// 13.1: all short texts of bytes of all kinds

func TestAllShort(t *testing.T) {
	every("", "a~ \t#\n\x01\xc3\xa9", 6, func(s string) { holdDue(t, s) })
}

// 13.1: MaxText bytes, and one more, whatever they are

func TestMaxText(t *testing.T) {
	for _, unit := range []string{"a", " ", "\t", "\n", "#"} {
		full := strings.Repeat(unit, maxText)
		want, _ := due(full)
		hold(t, full, want, api.OK)
		hold(t, full+unit, nil, api.ErrTooBig)
		hold(t, full+"\n", nil, api.ErrTooBig)
	}
	hold(t, strings.Repeat("a", maxText), tokens(1, strings.Repeat("a", maxText)), api.OK)
	hold(t, strings.Repeat("\n", maxText-1)+"a", tokens(maxText, "a"), api.OK)
	hold(t, "a#"+strings.Repeat("b", maxText-2), tokens(1, "a"), api.OK)
	hold(t, "a#"+strings.Repeat("b", maxText-1), nil, api.ErrTooBig)
	hold(t, strings.Repeat("é", maxText/2), nil, api.ErrSyntax) // bytes are counted, not runes
	hold(t, strings.Repeat("é", maxText/2)+"a", nil, api.ErrTooBig)
	hold(t, "#"+strings.Repeat("é", maxText/2), nil, api.ErrTooBig)
	hold(t, strings.Repeat("\x00", maxText), nil, api.ErrSyntax)
	hold(t, strings.Repeat("\x00", maxText+1), nil, api.ErrTooBig)
	hold(t, strings.Repeat("a", 1<<22), nil, api.ErrTooBig)
}

// 13.1: MaxTokens tokens, lines' ends among them, and one more

func TestMaxTokens(t *testing.T) {
	for n := maxTokens - 4; n <= maxTokens+4; n++ {
		for _, s := range []string{
			strings.Repeat("a ", n),
			strings.Repeat("a ", n) + "\n",
			strings.Repeat("a ", n) + "\n\n \n#x",
			strings.Repeat("a\n", n/2),
			strings.Repeat("a\n", n/2) + "a",
			strings.Repeat("#a\n", n),
			strings.Repeat("\n", n) + "a",
			strings.Repeat("a ", n) + "# b c d",
			strings.Repeat("a b\n", n/3) + strings.Repeat(" c", n%3),
		} {
			holdDue(t, s)
		}
	}
	for s, e := range map[string]api.Errno{
		strings.Repeat("a ", 1023):               api.OK,
		strings.Repeat("a ", 1023) + "\n":        api.OK,
		strings.Repeat("a ", 1023) + "#a":        api.OK,
		strings.Repeat("a ", 1024):               api.ErrTooBig, // their line's end is one more
		strings.Repeat("a ", 1022) + "\na":       api.ErrTooBig,
		strings.Repeat("a ", 1021) + "\na":       api.OK,
		strings.Repeat("a\n", 512):               api.OK,
		strings.Repeat("a\n", 512) + "a":         api.ErrTooBig,
		strings.Repeat("a\n", 512) + "\n \t\n#a": api.OK,
		strings.Repeat("a\n", 2048):              api.ErrTooBig,
	} {
		l, got := lex.Lex(s)
		if got != e || (e != api.OK) != (len(l) == 0) {
			t.Errorf("%d bytes: %d tokens, %d, want %d", len(s), len(l), got, e)
		}
	}
}

// 13.1: ErrTooBig ahead of ErrSyntax, with wrong bytes as parts of words, but not in notes

func TestErrorsOrder(t *testing.T) {
	for _, c := range []struct {
		s string
		e api.Errno
	}{
		{strings.Repeat("a ", 1024) + "# \x01", api.ErrTooBig},
		{"\x01 " + strings.Repeat("a ", 1024), api.ErrTooBig},
		{strings.Repeat("a ", 1023) + "\x01", api.ErrTooBig}, // the wrong byte is the word too many
		{strings.Repeat("a ", 1022) + "\x01", api.ErrSyntax},
		{strings.Repeat("\x01 ", 1024), api.ErrTooBig},
		{strings.Repeat("\x01 ", 1023), api.ErrSyntax},
		{strings.Repeat("\xff\n", 513), api.ErrTooBig},
		{strings.Repeat("\xff\n", 512), api.ErrSyntax},
		{strings.Repeat("é ", 1024), api.ErrTooBig},
		{strings.Repeat("é ", 1023), api.ErrSyntax},
		{strings.Repeat("a\x01a ", 1000), api.ErrSyntax}, // no end of a word
		{strings.Repeat("a\ra\n", 512), api.ErrSyntax},   // nor of a line
		{strings.Repeat("a\u00a0a ", 819), api.ErrSyntax},
		{strings.Repeat("a ", 1023) + "#\x01", api.ErrSyntax},
		{strings.Repeat("a ", 1023) + "# \x01 \x01", api.ErrSyntax}, // no words in a note
		{strings.Repeat("a ", 1023) + "#\xff", api.ErrSyntax},
		{strings.Repeat("a\n", 512) + "#\x01\n#\x01", api.ErrSyntax},
		{strings.Repeat("a\n", 512) + "\x01", api.ErrTooBig},
	} {
		hold(t, c.s, nil, c.e)
		holdDue(t, c.s)
	}
}

// 13.2: by hand; any tokens, such as Lex never makes too, whatever their lines

func TestShow(t *testing.T) {
	for _, c := range []struct {
		texts []string
		want  string
	}{
		{nil, ""},
		{[]string{"a"}, "a"},
		{[]string{"a", "b"}, "a b"},
		{[]string{"\n"}, "\n"},
		{[]string{"\n", "\n"}, "\n\n"},
		{[]string{"a", "\n"}, "a\n"},
		{[]string{"\n", "a"}, "\na"},
		{[]string{"a", "\n", "b"}, "a\nb"},
		{[]string{"a", "b", "\n", "\n", "c", "d", "e"}, "a b\n\nc d e"},
		{[]string{"zone", "A", "\n", "base", "+1", "B", "\n"}, "zone A\nbase +1 B\n"},
		{[]string{""}, ""},
		{[]string{"", ""}, " "},
		{[]string{"", "a", ""}, " a "},
		{[]string{"", "\n", ""}, "\n"},
		{[]string{"a\n", "b"}, "a\n b"},
		{[]string{"a", "\nb"}, "a \nb"},
		{[]string{"\n\n", "\n"}, "\n\n\n"},
		{[]string{"\n\n", "a"}, "\n\n a"},
		{[]string{" ", "\t", "#"}, "  \t #"},
		{[]string{"\x00", "\xff", "é"}, "\x00 \xff é"},
	} {
		for _, line := range []int{0, 1, -7, 1 << 62} {
			var l []api.Token
			for i, s := range c.texts {
				l = append(l, api.Token{Text: s, Line: line - i})
			}
			if got := lex.Show(l); got != c.want {
				t.Errorf("Show(%q) = %q, want %q", c.texts, got, c.want)
			}
		}
	}
	if got := lex.Show([]api.Token{}); got != "" {
		t.Errorf("Show of an empty list: %q", got)
	}
}

// 13.2: no limit of tokens or bytes

func TestShowMany(t *testing.T) {
	long := strings.Repeat("b", maxText)
	l := make([]api.Token, 100000)
	for i := range l {
		l[i].Text = "a"
	}
	l[len(l)-1].Text = long
	if got := lex.Show(l); got != strings.Repeat("a ", len(l)-1)+long {
		t.Errorf("%d bytes", len(got))
	}
}

// 13.3 and T5: Lex of Show has the same Texts, and Show of these is the same text; but where Show is too long

func holdBack(t *testing.T, s string) {
	t.Helper()
	l, e := lex.Lex(s)
	if e != api.OK {
		return
	}
	shown := lex.Show(l)
	again, e := lex.Lex(shown)
	if len(shown) > maxText {
		if e != api.ErrTooBig {
			t.Fatalf("Lex(Show(Lex(%.20q))), %d bytes: %d", s, len(shown), e)
		}
		return
	}
	if e != api.OK || !slices.Equal(texts(again), texts(l)) || lex.Show(again) != shown {
		t.Fatalf("Lex(Show(Lex(%.40q))) = %.20v, %d, want the texts of %.20v", s, again, e, l)
	}
}

func TestThereAndBack(t *testing.T) {
	every("", "aZ \t#\n", 7, func(s string) { holdBack(t, s) })
	full := strings.Repeat("a", maxText)
	for _, s := range []string{
		full, full[1:], full[1:] + "\n", full[1:] + " ", full[2:] + "\n\n",
		strings.Repeat("a ", 1023), strings.Repeat("a\n", 512), strings.Repeat("\n", 4095) + "a",
		strings.Repeat("abc ", 1023) + "abcd", strings.Repeat("abc\tabc\n", 341) + "#",
	} {
		holdBack(t, s)
	}
}

// R4 and R5: lists that share nothing, none changed, the same answer again

func TestOwnMemory(t *testing.T) {
	const s = "zone A # x\nbase +1 B"
	want, _ := due(s)
	first, _ := lex.Lex(s)
	second, _ := lex.Lex(s)
	for i := range first {
		first[i] = api.Token{Text: "x", Line: -1}
	}
	for i := range first[:cap(first)] {
		first[:cap(first)][i].Text = "y"
	}
	if !slices.Equal(second, want) {
		t.Errorf("%v", second)
	}
	hold(t, s, want, api.OK)
	lex.Lex("a\x01")
	lex.Lex(strings.Repeat("a ", 2000))
	hold(t, s, want, api.OK)

	whole := slices.Clone(append(want, tokens(9, "behind")...))
	kept := slices.Clone(whole)
	shown := lex.Show(whole[:len(want)])
	if !slices.Equal(whole, kept) {
		t.Errorf("Show changed %v to %v", kept, whole)
	}
	if again := lex.Show(whole[:len(want)]); again != shown || shown != "zone A\nbase +1 B\n" {
		t.Errorf("%q, %q", shown, again)
	}
}
