package words_test

// Each test names what it holds of promises 14.1 and 14.2 (shared/doc/14-words.md).
// What a word should answer is told by the library's patterns and numbers, and by its
// time for moments, beside values that are written out by hand.

import (
	"fmt"
	"math"
	"regexp"
	"strconv"
	"strings"
	"testing"
	"time"

	"analemma/api"
	"analemma/words"
)

const (
	most      = math.MaxInt
	least     = math.MinInt
	maxOffset = 64800
)

var names = []string{"mon", "tue", "wed", "thu", "fri", "sat", "sun"}

var (
	numberForm = regexp.MustCompile(`\A(0|-?[1-9][0-9]{0,5})\z`)
	offsetForm = regexp.MustCompile(`\A([+-])([0-9]{2}):([0-5][0-9])(:([0-5][0-9]))?\z`)
	timeForm   = regexp.MustCompile(`\A([0-9]{2}):([0-5][0-9])(:([0-5][0-9]))?\z`)
	dayForm    = regexp.MustCompile(`\A(mon|tue|wed|thu|fri|sat|sun)(>=|<=)(.*)\z`)
	momentForm = regexp.MustCompile(`\A(-?[0-9]{4})-([0-9]{2})-([0-9]{2})T([0-9]{2}):([0-9]{2}):([0-9]{2})\z`)
	abbrForm   = regexp.MustCompile(`\A[A-Za-z]{1,6}\z`)
	nameForm   = regexp.MustCompile(`\A[A-Za-z0-9_/-]{1,32}\z`)
)

// number is what the library reads where the form is known; of an empty part 0.
func number(s string) int {
	n, _ := strconv.Atoi(s)
	return n
}

// dueNumber is what Number must answer.
func dueNumber(s string, low, high int) (int, api.Errno) {
	if !numberForm.MatchString(s) {
		return 0, api.ErrSyntax
	}
	return inRange(number(s), low, high)
}

func inRange(n, low, high int) (int, api.Errno) {
	if n < low || n > high {
		return 0, api.ErrRange
	}
	return n, api.OK
}

// dueOffset is what Offset must answer.
func dueOffset(s string) (int, api.Errno) {
	m := offsetForm.FindStringSubmatch(s)
	if m == nil || s == "-00:00" || s == "-00:00:00" {
		return 0, api.ErrSyntax
	}
	n := number(m[2])*3600 + number(m[3])*60 + number(m[5])
	return inRange(number(m[1]+strconv.Itoa(n)), -maxOffset, maxOffset)
}

// dueTime is what Time must answer.
func dueTime(s string) (int, api.Errno) {
	m := timeForm.FindStringSubmatch(s)
	if m == nil {
		return 0, api.ErrSyntax
	}
	return inRange(number(m[1])*3600+number(m[2])*60+number(m[4]), 0, 86400)
}

// dueDay is what Day must answer.
func dueDay(s string) (api.Day, api.Errno) {
	for i, name := range names {
		if s == "last-"+name {
			return api.Day{Kind: 1, W: i + 1}, api.OK
		}
	}
	day, rest := api.Day{}, s
	if m := dayForm.FindStringSubmatch(s); m != nil {
		rest = m[3]
		for i, name := range names {
			if m[1] == name {
				day.W = i + 1
			}
		}
		day.Kind = map[string]int{">=": 2, "<=": 3}[m[2]]
	}
	n, e := dueNumber(rest, 1, 31)
	if e != api.OK {
		return api.Day{}, e
	}
	day.N = n
	return day, api.OK
}

// dueMoment is what Moment must answer.
func dueMoment(s string) (int, api.Errno) {
	m := momentForm.FindStringSubmatch(s)
	if m == nil || m[1] == "-0000" {
		return 0, api.ErrSyntax
	}
	y, mon, d, h, min, sec := number(m[1]), number(m[2]), number(m[3]), number(m[4]), number(m[5]), number(m[6])
	if h > 23 || min > 59 || sec > 59 {
		return 0, api.ErrBadArg
	}
	at := time.Date(y, time.Month(mon), d, h, min, sec, 0, time.UTC)
	if at.Year() != y || int(at.Month()) != mon || at.Day() != d {
		return 0, api.ErrNoSuchDay
	}
	return int(at.Unix()), api.OK
}

// answer is what a call must answer of a word.
type answer struct {
	s    string
	want int
	e    api.Errno
}

func formOnly(form *regexp.Regexp, s string) api.Errno {
	if form.MatchString(s) {
		return api.OK
	}
	return api.ErrSyntax
}

// hold holds what a call of that name answered of s against what it must.
func hold[T comparable](t *testing.T, call, s string, got T, e api.Errno, want T, wantE api.Errno) {
	t.Helper()
	if got != want || e != wantE {
		t.Fatalf("%s(%.60q) = %v, %d, want %v, %d", call, s, got, e, want, wantE)
	}
}

func holdNumber(t *testing.T, s string, low, high, want int, wantE api.Errno) {
	t.Helper()
	got, e := words.Number(s, low, high)
	hold(t, fmt.Sprintf("Number %d to %d", low, high), s, got, e, want, wantE)
}

func holdOffset(t *testing.T, s string, want int, wantE api.Errno) {
	t.Helper()
	got, e := words.Offset(s)
	hold(t, "Offset", s, got, e, want, wantE)
}

func holdTime(t *testing.T, s string, want int, wantE api.Errno) {
	t.Helper()
	got, e := words.Time(s)
	hold(t, "Time", s, got, e, want, wantE)
}

func holdYear(t *testing.T, s string, want int, wantE api.Errno) {
	t.Helper()
	got, e := words.Year(s)
	hold(t, "Year", s, got, e, want, wantE)
}

func holdDay(t *testing.T, s string, want api.Day, wantE api.Errno) {
	t.Helper()
	got, e := words.Day(s)
	hold(t, "Day", s, got, e, want, wantE)
}

func holdMoment(t *testing.T, s string, want int, wantE api.Errno) {
	t.Helper()
	got, e := words.Moment(s)
	hold(t, "Moment", s, got, e, want, wantE)
}

// holdAll asks all calls of one word.
func holdAll(t *testing.T, s string) {
	t.Helper()
	for _, bounds := range [][2]int{{0, 0}, {1, 31}, {-9, 109}, {least, most}, {5, 4}} {
		n, e := dueNumber(s, bounds[0], bounds[1])
		holdNumber(t, s, bounds[0], bounds[1], n, e)
	}
	n, e := dueOffset(s)
	holdOffset(t, s, n, e)
	n, e = dueTime(s)
	holdTime(t, s, n, e)
	n, e = dueNumber(s, -9999, 9999)
	holdYear(t, s, n, e)
	d, e := dueDay(s)
	holdDay(t, s, d, e)
	n, e = dueMoment(s)
	holdMoment(t, s, n, e)
	hold(t, "Abbr", s, 0, words.Abbr(s), 0, formOnly(abbrForm, s))
	hold(t, "Name", s, 0, words.Name(s), 0, formOnly(nameForm, s))
}

// every hands f s, and all texts that go on with up to n of the bytes.
func every(s, bytes string, n int, f func(s string)) {
	f(s)
	if n == 0 {
		return
	}
	for i := range len(bytes) {
		every(s+bytes[i:i+1], bytes, n-1, f)
	}
}

// damaged hands f all texts that are s with one byte gone, put in, doubled or another one.
func damaged(s string, f func(s string)) {
	const others = "+-:T0159>=<xlasA_/ .\n\x00\x7f\xff"
	for i := range len(s) + 1 {
		for j := range len(others) {
			f(s[:i] + others[j:j+1] + s[i:])
			if i < len(s) {
				f(s[:i] + others[j:j+1] + s[i+1:])
			}
		}
		if i < len(s) {
			f(s[:i] + s[i+1:])
			f(s[:i+1] + s[i:])
		}
		f(s[:i])
		f(s[i:])
	}
}

// 14.1 and 14.2: all calls, of all short words, of words with one fault, of each byte alone and within a word

func TestAllShort(t *testing.T) {
	every("", "019-+:", 6, func(s string) { holdAll(t, s) })
	every("", "a-0Z_/é", 5, func(s string) { holdAll(t, s) })
	every("sun", ">=<189-", 5, func(s string) { holdAll(t, s) })
	every("last-", "sun-t", 4, func(s string) { holdAll(t, s) })
	every("+00", "05:6", 6, func(s string) { holdAll(t, s) })
	every("-00", "0:1", 6, func(s string) { holdAll(t, s) })
	every("2024-02-29T00", ":06", 6, func(s string) { holdAll(t, s) })
}

func TestDamaged(t *testing.T) {
	for _, s := range []string{
		"", "0", "7", "-12", "999999", "-9999", "+01:00", "-05:30", "+00:00", "-18:00:00", "-00:00:01", "24:00", "23:59:59",
		"31", "last-fri", "sun>=8", "mon<=31", "2024-02-29T23:59:59", "-0001-12-31T00:00:00", "0000-01-01T12:00:00",
		"CET", "ABCdef", "Mid/Land_1", "a-b", "ABCDEFGHIJKLMNOPQRSTUVWXYZ_-/012",
	} {
		holdAll(t, s)
		damaged(s, func(s string) { holdAll(t, s) })
	}
}

func TestEachByte(t *testing.T) {
	for b := range 256 {
		s := string([]byte{byte(b)})
		for _, text := range []string{s, s + s, "A" + s, s + "A", "A" + s + "B", "1" + s, s + "1", "1" + s + "1"} {
			holdAll(t, text)
		}
	}
}

// 14.1, Number: by hand; bounds that any ints may be, also such as nothing lies between

func TestNumber(t *testing.T) {
	for _, c := range []struct {
		s         string
		low, high int
		want      int
		e         api.Errno
	}{
		{"0", 0, 0, 0, api.OK},
		{"5", 0, 9, 5, api.OK},
		{"5", 5, 5, 5, api.OK},
		{"5", 6, 9, 0, api.ErrRange},
		{"5", 0, 4, 0, api.ErrRange},
		{"-5", -5, -5, -5, api.OK},
		{"-5", -4, 4, 0, api.ErrRange},
		{"-5", -9, -6, 0, api.ErrRange},
		{"5", -9, -1, 0, api.ErrRange},
		{"0", 1, 31, 0, api.ErrRange},
		{"10", 0, 99, 10, api.OK},
		{"100000", 0, 999999, 100000, api.OK},
		{"999999", 0, 999999, 999999, api.OK},
		{"-999999", -999999, 0, -999999, api.OK},
		{"999999", least, most, 999999, api.OK},
		{"-999999", least, most, -999999, api.OK},
		{"1", most, least, 0, api.ErrRange},
		{"1", 2, 0, 0, api.ErrRange},
		{"0", most, most, 0, api.ErrRange},
		{"-1", least, least, 0, api.ErrRange},
		{"1000000", 0, 1 << 40, 0, api.ErrSyntax},
		{"-1000000", least, most, 0, api.ErrSyntax},
		{"18446744073709551617", least, most, 0, api.ErrSyntax},
		{"", 0, 9, 0, api.ErrSyntax},
		{"-", -9, 9, 0, api.ErrSyntax},
		{"-0", -9, 9, 0, api.ErrSyntax},
		{"-00", -9, 9, 0, api.ErrSyntax},
		{"00", 0, 9, 0, api.ErrSyntax},
		{"05", 0, 9, 0, api.ErrSyntax},
		{"-05", -9, 9, 0, api.ErrSyntax},
		{"000001", 0, 9, 0, api.ErrSyntax},
		{"0000000", 0, 9, 0, api.ErrSyntax},
		{"+5", 0, 9, 0, api.ErrSyntax},
		{"--5", -9, 9, 0, api.ErrSyntax},
		{"5-", 0, 9, 0, api.ErrSyntax},
		{" 5", 0, 9, 0, api.ErrSyntax},
		{"5 ", 0, 9, 0, api.ErrSyntax},
		{"5\n", 0, 9, 0, api.ErrSyntax},
		{"1_0", 0, 99, 0, api.ErrSyntax},
		{"0x1", 0, 99, 0, api.ErrSyntax},
		{"1e1", 0, 99, 0, api.ErrSyntax},
		{"1.0", 0, 99, 0, api.ErrSyntax},
		{"٣", 0, 99, 0, api.ErrSyntax},
		{"x", 9, 0, 0, api.ErrSyntax}, // ahead of ErrRange
	} {
		holdNumber(t, c.s, c.low, c.high, c.want, c.e)
	}
	for n := -999999; n <= 999999; n += 7 {
		holdNumber(t, strconv.Itoa(n), n, n, n, api.OK)
		holdNumber(t, strconv.Itoa(n), n+1, most, 0, api.ErrRange)
		holdNumber(t, strconv.Itoa(n), least, n-1, 0, api.ErrRange)
	}
	holdNumber(t, strings.Repeat("1", 1<<20), least, most, 0, api.ErrSyntax)
	holdNumber(t, strings.Repeat("0", 1<<20)+"1", least, most, 0, api.ErrSyntax)
}

// 14.1, Offset: by hand, its edges, and all pairs of digits

func TestOffset(t *testing.T) {
	for _, c := range []answer{
		{"+01:00", 3600, api.OK},
		{"-05:30", -19800, api.OK},
		{"-05:30:01", -19801, api.OK},
		{"+00:00", 0, api.OK},
		{"+00:00:00", 0, api.OK},
		{"+00:00:01", 1, api.OK},
		{"-00:00:01", -1, api.OK},
		{"-00:01", -60, api.OK},
		{"+05:45:00", 20700, api.OK},
		{"+18:00", 64800, api.OK},
		{"-18:00", -64800, api.OK},
		{"+18:00:00", 64800, api.OK},
		{"+17:59:59", 64799, api.OK},
		{"-17:59:59", -64799, api.OK},
		{"+18:00:01", 0, api.ErrRange},
		{"-18:00:01", 0, api.ErrRange},
		{"+18:01", 0, api.ErrRange},
		{"+19:00", 0, api.ErrRange},
		{"-99:59:59", 0, api.ErrRange},
	} {
		holdOffset(t, c.s, c.want, c.e)
	}
	for _, s := range []string{
		"-00:00", "-00:00:00", "+01:60", "+01:00:60",
		"+99:60", // ahead of ErrRange
		"-99:59:99", "", "+", "01:00", "+1:00", "+001:00", "+01:0", "+0100", "+01", "+01:", "+01:00:", "+01:00:0", "+01:00:000", "+01:00:00:00", "+-01:00",
		"-+01:00", "++01:00", "--01:00", "+01-00", "Z", " +01:00", "+01:00 ", "−01:00",
	} {
		holdOffset(t, s, 0, api.ErrSyntax)
	}
}

// times hands f all words of two and of three pairs of digits; seconds that differ little are left out.
func times(f func(s string)) {
	for h := range 100 {
		for m := range 100 {
			f(fmt.Sprintf("%02d:%02d", h, m))
			for _, s := range []int{0, 1, 9, 10, 29, 58, 59, 60, 99} {
				f(fmt.Sprintf("%02d:%02d:%02d", h, m, s))
			}
		}
	}
}

func TestAllTimes(t *testing.T) {
	times(func(s string) {
		n, e := dueTime(s)
		holdTime(t, s, n, e)
		for _, sign := range []string{"", "+", "-"} {
			n, e := dueOffset(sign + s)
			holdOffset(t, sign+s, n, e)
		}
	})
}

// 14.1, Time: by hand; a day's end, and one second more

func TestTime(t *testing.T) {
	for _, c := range []answer{
		{"00:00", 0, api.OK},
		{"00:00:00", 0, api.OK},
		{"00:00:59", 59, api.OK},
		{"01:00", 3600, api.OK},
		{"02:30", 9000, api.OK},
		{"23:59", 86340, api.OK},
		{"23:59:59", 86399, api.OK},
		{"24:00", 86400, api.OK},
		{"24:00:00", 86400, api.OK},
		{"24:00:01", 0, api.ErrRange},
		{"24:01", 0, api.ErrRange},
		{"25:00", 0, api.ErrRange},
		{"99:00", 0, api.ErrRange},
		{"99:59:59", 0, api.ErrRange},
	} {
		holdTime(t, c.s, c.want, c.e)
	}
	for _, s := range []string{
		"24:60", "99:99", "00:60", "00:00:60", "", ":", "9:00", "009:00", "09:0", "09:00:0", "09:00:", "09", "0900", "+09:00", "-09:00", "-1:00", "09.00",
		"09:00u", "09:00:00.0",
	} {
		holdTime(t, s, 0, api.ErrSyntax)
	}
}

// 14.1, Year: its edges, one past each

func TestYear(t *testing.T) {
	for _, c := range []answer{
		{"0", 0, api.OK},
		{"1", 1, api.OK},
		{"-1", -1, api.OK},
		{"2024", 2024, api.OK},
		{"9999", 9999, api.OK},
		{"-9999", -9999, api.OK},
		{"10000", 0, api.ErrRange},
		{"-10000", 0, api.ErrRange},
		{"999999", 0, api.ErrRange},
	} {
		holdYear(t, c.s, c.want, c.e)
	}
	for _, s := range []string{
		"1000000", "0000", "0001", "-0", "-0001", "+2024", "only", "on", "",
	} {
		holdYear(t, s, 0, api.ErrSyntax)
	}
	for y := -10001; y <= 10001; y++ {
		n, e := inRange(y, -9999, 9999)
		holdYear(t, strconv.Itoa(y), n, e)
	}
}

// 14.2, Day: by hand, all kinds, all weekdays, all days from below 1 to past 31

func TestDay(t *testing.T) {
	for _, c := range []struct {
		s    string
		want api.Day
		e    api.Errno
	}{
		{"1", api.Day{N: 1}, api.OK},
		{"15", api.Day{Kind: api.DayDate, N: 15}, api.OK},
		{"31", api.Day{N: 31}, api.OK},
		{"last-mon", api.Day{Kind: api.DayLast, W: 1}, api.OK},
		{"last-fri", api.Day{Kind: api.DayLast, W: 5}, api.OK},
		{"last-sun", api.Day{Kind: api.DayLast, W: 7}, api.OK},
		{"sun>=8", api.Day{Kind: api.DayFrom, N: 8, W: 7}, api.OK},
		{"mon<=31", api.Day{Kind: api.DayBefore, N: 31, W: 1}, api.OK},
		{"thu>=1", api.Day{Kind: api.DayFrom, N: 1, W: 4}, api.OK},
		{"0", api.Day{}, api.ErrRange},
		{"32", api.Day{}, api.ErrRange},
		{"-1", api.Day{}, api.ErrRange},
		{"999999", api.Day{}, api.ErrRange},
		{"sun>=0", api.Day{}, api.ErrRange},
		{"sun>=32", api.Day{}, api.ErrRange},
		{"sun>=-8", api.Day{}, api.ErrRange},
		{"tue<=0", api.Day{}, api.ErrRange},
		{"tue<=32", api.Day{}, api.ErrRange},
	} {
		holdDay(t, c.s, c.want, c.e)
	}
	for _, s := range []string{
		"", "08", "-0", "+8", "1000000", "8 ", "mon", "last", "last-", "last-xyz", "last-8", "last-mon ", "last-mon8", "last-sunday", "last-Sun", "LAST-sun",
		"last--sun", "lastsun", "last sun", "-sun", "first-sun", "last-sun>=8", "last-last-sun", "sun=8", "sun>8", "sun<8", "sun=>8", "sun=<8", "sun==8",
		"sun>=", "sun<=", "sun>=08", "sun>=-0", "sun>=+8", "sun>= 8", "sun >=8", "sun>=8 ", "Sun>=8", "SUN>=8", "su>=8", "sunday>=8", "sun8", "sun-8", "8>=sun",
		">=8", "<=8", ">=", "<=", "xyz>=8", "xyz>=32", "xyz<=0", "8>=8", "sun>=x", "sun>=1000000", "sun>=8<=9", "sun<=8>=9", "sun>=>=8", "sun<=<=8", "sun<>=8", "sun>=8>=8",
		"sun>=mon", "sun>=last-sun", "mon,tue>=8", "sun≥8", "só>=8",
	} {
		holdDay(t, s, api.Day{}, api.ErrSyntax)
	}
	for i, name := range names {
		holdDay(t, "last-"+name, api.Day{Kind: 1, W: i + 1}, api.OK)
		for n := -40; n <= 140; n++ {
			from, before := api.Day{Kind: 2, N: n, W: i + 1}, api.Day{Kind: 3, N: n, W: i + 1}
			e := api.OK
			if n < 1 || n > 31 {
				from, before, e = api.Day{}, api.Day{}, api.ErrRange
			}
			holdDay(t, name+">="+strconv.Itoa(n), from, e)
			holdDay(t, name+"<="+strconv.Itoa(n), before, e)
		}
	}
	holdDay(t, strings.Repeat("sun>=", 1<<18)+"8", api.Day{}, api.ErrSyntax)
}

// 14.2, Day: no other word of three letters is a day's name

func TestDayNames(t *testing.T) {
	const letters = "abcdefghijklmnopqrstuvwxyz"
	known := 0
	every("", letters, 3, func(name string) {
		_, last := words.Day("last-" + name)
		_, from := words.Day(name + ">=1")
		_, before := words.Day(name + "<=1")
		if last != from || last != before || last != api.OK && last != api.ErrSyntax {
			t.Fatalf("%s: %d, %d, %d", name, last, from, before)
		}
		if last == api.OK {
			known++
		}
	})
	if known != len(names) {
		t.Errorf("%d names", known)
	}
}

// 14.2, Moment: by hand; the edges of the range, and the errors in their order

func TestMoment(t *testing.T) {
	for _, c := range []answer{
		{"1970-01-01T00:00:00", 0, api.OK},
		{"1970-01-01T00:00:01", 1, api.OK},
		{"1969-12-31T23:59:59", -1, api.OK},
		{"2000-03-01T00:00:00", 951868800, api.OK},
		{"2024-02-29T12:34:56", 1709210096, api.OK},
		{"0000-01-01T00:00:00", -62167219200, api.OK},
		{"-0001-12-31T23:59:59", -62167219201, api.OK},
		{"-9999-01-01T00:00:00", -377705116800, api.OK},
		{"9999-12-31T23:59:59", 253402300799, api.OK},
		{"0000-02-29T00:00:00", -62162121600, api.OK},
		{"2024-02-30T00:00:00", 0, api.ErrNoSuchDay},
		{"2023-02-29T00:00:00", 0, api.ErrNoSuchDay},
		{"1900-02-29T00:00:00", 0, api.ErrNoSuchDay},
		{"2024-04-31T00:00:00", 0, api.ErrNoSuchDay},
		{"2024-00-01T00:00:00", 0, api.ErrNoSuchDay},
		{"2024-13-01T00:00:00", 0, api.ErrNoSuchDay},
		{"2024-01-00T00:00:00", 0, api.ErrNoSuchDay},
		{"2024-01-32T00:00:00", 0, api.ErrNoSuchDay},
		{"9999-12-99T23:59:59", 0, api.ErrNoSuchDay},
		{"2024-02-28T24:00:00", 0, api.ErrBadArg},
		{"2024-02-28T23:60:00", 0, api.ErrBadArg},
		{"2024-02-28T23:59:60", 0, api.ErrBadArg},
		{"2024-02-30T24:00:00", 0, api.ErrBadArg}, // ahead of ErrNoSuchDay
		{"9999-99-99T99:99:99", 0, api.ErrBadArg},
	} {
		holdMoment(t, c.s, c.want, c.e)
	}
	for _, s := range []string{
		"-0000-01-01T00:00:00",
		"-0000-99-99T99:99:99", // ahead of both
		"", "-", "+2024-01-01T00:00:00", "--2024-01-01T00:00:00", "02024-01-01T00:00:00", "10000-01-01T00:00:00", "-10000-01-01T00:00:00",
		"999-01-01T00:00:00", "2024-1-01T00:00:00", "2024-01-1T00:00:00", "2024-01-01T0:00:00", "2024-01-01T00:00", "2024-01-01T00:00:0",
		"2024-01-01T00:00:000", "2024-01-01T00:00:00Z", "2024-01-01T00:00:00.0", "2024-01-01t00:00:00", "2024-01-01 00:00:00", "2024/01/01T00:00:00",
		"2024-01-01T00-00-00", "2024-01-01", "20240101T000000", "2024-01-0xT00:00:00", "-024-01-01T00:00:00",
	} {
		holdMoment(t, s, 0, api.ErrSyntax)
	}
}

// 14.2, Moment: months and days that may be or not, of years of all kinds, at many times of day

func TestManyMoments(t *testing.T) {
	for _, y := range []string{"-9999", "-9996", "-0400", "-0100", "-0004", "-0001", "0000", "0001", "0100", "1582", "1900", "1970", "2000", "2023", "2024", "9996", "9999"} {
		for m := range 15 {
			for d := range 34 {
				for _, clock := range []string{"00:00:00", "09:05:07", "23:59:59", "24:00:00", "00:60:00", "99:00:00", "00:00:60"} {
					s := fmt.Sprintf("%s-%02d-%02dT%s", y, m, d, clock)
					n, e := dueMoment(s)
					holdMoment(t, s, n, e)
				}
			}
		}
	}
	for h := range 100 {
		for m := range 100 {
			s := fmt.Sprintf("2024-06-15T%02d:%02d:%02d", h, m, (h*7+m)%100)
			n, e := dueMoment(s)
			holdMoment(t, s, n, e)
		}
	}
}

// 14.2, Abbr: lengths, letters' edges

func TestAbbr(t *testing.T) {
	for _, s := range []string{"A", "Z", "a", "z", "CET", "CEST", "cest", "LmT", "ABCDEF", "zzzzzz"} {
		hold(t, "Abbr", s, 0, words.Abbr(s), 0, api.OK)
	}
	for _, s := range []string{"", "ABCDEFG", "A1", "1", "A-B", "A_B", "A/B", "A B", " A", "A ", "A\n", "+01", "@", "[", "`", "{", "É", "ÉÉÉ", "\xff", "A\x00", strings.Repeat("A", 1<<20)} {
		hold(t, "Abbr", s, 0, words.Abbr(s), 0, api.ErrSyntax)
	}
}

// 14.2, Name: lengths, all bytes that may be

func TestName(t *testing.T) {
	full := strings.Repeat("a", 32)
	for _, s := range []string{"A", "z", "0", "9", "_", "-", "/", "UTC", "Mid/Land", "Mid/Land_1", "-/_", "//", "12", full, full[1:] + "/", "-05:30"[:3]} {
		hold(t, "Name", s, 0, words.Name(s), 0, api.OK)
	}
	for _, s := range []string{"", full + "a", "a b", " a", "a ", "a\n", "a\t", "a.b", "a+b", "a:b", "a\\b", "a,b", "a#", "@", "[", "`", "{", "é", strings.Repeat("é", 16), "\xff", "a\x00", strings.Repeat("a", 1<<20)} {
		hold(t, "Name", s, 0, words.Name(s), 0, api.ErrSyntax)
	}
}

// 14.2, ShowOffset: by hand; past the range, also where a negative is no int

func TestShowOffset(t *testing.T) {
	for n, want := range map[int]string{
		0: "+00:00", 1: "+00:00:01", -1: "-00:00:01", 59: "+00:00:59", 60: "+00:01", -60: "-00:01", 61: "+00:01:01",
		3599: "+00:59:59", 3600: "+01:00", -3600: "-01:00", -19800: "-05:30", -19801: "-05:30:01", 20700: "+05:45",
		36000: "+10:00", 64799: "+17:59:59", 64800: "+18:00", -64800: "-18:00", -64799: "-17:59:59",
	} {
		got, e := words.ShowOffset(n)
		hold(t, "ShowOffset", strconv.Itoa(n), got, e, want, api.OK)
	}
	for _, n := range []int{64801, -64801, 86400, -86400, 359999, 360000, 1 << 32, -1 << 32, most, least, least + 1} {
		got, e := words.ShowOffset(n)
		hold(t, "ShowOffset", strconv.Itoa(n), got, e, "", api.ErrRange)
	}
}

// 14.1, 14.2 and T5: each offset is read as it was shown, and what is shown has no seconds that are 0

func TestThereAndBack(t *testing.T) {
	for n := -maxOffset - 1000; n <= maxOffset+1000; n++ {
		s, e := words.ShowOffset(n)
		if n < -maxOffset || n > maxOffset {
			hold(t, "ShowOffset", strconv.Itoa(n), s, e, "", api.ErrRange)
			continue
		}
		if e != api.OK || (n%60 == 0) != (len(s) == len("+00:00")) {
			t.Fatalf("ShowOffset(%d) = %q, %d", n, s, e)
		}
		holdOffset(t, s, n, api.OK)
	}
}

// R5: the same answer again, whatever was asked between

func TestAgain(t *testing.T) {
	for range 3 {
		holdDay(t, "sun>=8", api.Day{Kind: 2, N: 8, W: 7}, api.OK)
		holdDay(t, "last-xyz", api.Day{}, api.ErrSyntax)
		holdOffset(t, "+19:00", 0, api.ErrRange)
		holdOffset(t, "-05:30", -19800, api.OK)
		holdMoment(t, "2024-02-30T00:00:00", 0, api.ErrNoSuchDay)
	}
}
