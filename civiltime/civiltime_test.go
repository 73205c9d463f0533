package civiltime_test

// Each test names the promise that it holds (shared/doc/09-civiltime.md). What the
// numbers should be is told by a walk over all days in range, one by one, and by
// the library's time (of which no clock is asked), beside values that are written
// out by hand.

import (
	"math"
	"testing"
	"time"

	"analemma/api"
	"analemma/civiltime"
)

const (
	most     = math.MaxInt
	least    = math.MinInt
	second   = 1000000000
	lastNano = 999999999
	daySecs  = 86400
)

// the ends of the range, and civil times of note
var (
	first = at(-9999, 1, 1, 0, 0, 0, 0)
	last  = at(9999, 12, 31, 23, 59, 59, lastNano)
	start = at(1970, 1, 1, 0, 0, 0, 0)
)

func at(y, m, d, h, min, s, n int) api.Civil {
	return api.Civil{Date: api.Date{Y: y, M: m, D: d}, Clock: api.Clock{H: h, M: min, S: s, N: n}}
}

func within(n, from, to int) bool {
	return from <= n && n <= to
}

// dueMonthDays is told by the library's time: day 0 of the next month. It asks for a year of the same kind.
func dueMonthDays(y, m int) int {
	if !within(m, 1, 12) {
		return 0
	}
	return time.Date(2000+y%400, time.Month(m)+1, 0, 0, 0, 0, 0, time.UTC).Day()
}

func dueCheck(c api.Civil) api.Errno {
	switch {
	case !within(c.Clock.H, 0, 23), !within(c.Clock.M, 0, 59), !within(c.Clock.S, 0, 59), !within(c.Clock.N, 0, lastNano):
		return api.ErrBadArg
	case !within(c.Date.D, 1, dueMonthDays(c.Date.Y, c.Date.M)):
		return api.ErrNoSuchDay
	case !within(c.Date.Y, -9999, 9999):
		return api.ErrRange
	}
	return api.OK
}

func dueCheckDur(d api.Dur) api.Errno {
	switch {
	case !within(d.Nano, 0, lastNano):
		return api.ErrBadArg
	case !within(d.Sec, -1<<40, 1<<40), d.Sec == 1<<40 && d.Nano > 0:
		return api.ErrRange
	}
	return api.OK
}

// dueError is the least of those that apply.
func dueError(all ...api.Errno) api.Errno {
	due := api.OK
	for _, e := range all {
		if e != api.OK && (due == api.OK || e < due) {
			due = e
		}
	}
	return due
}

// dueSecs is told by the library's time.
func dueSecs(c api.Civil) int {
	return int(time.Date(c.Date.Y, time.Month(c.Date.M), c.Date.D, c.Clock.H, c.Clock.M, c.Clock.S, 0, time.UTC).Unix())
}

// dueOf is told by the library's time.
func dueOf(sec, nano int) (api.Civil, api.Errno) {
	switch {
	case !within(nano, 0, lastNano):
		return api.Civil{}, api.ErrBadArg
	case !within(sec, -377705116800, 253402300799):
		return api.Civil{}, api.ErrRange
	}
	when := time.Unix(int64(sec), int64(nano)).UTC()
	return at(when.Year(), int(when.Month()), when.Day(), when.Hour(), when.Minute(), when.Second(), when.Nanosecond()), api.OK
}

func dueAdd(c api.Civil, d api.Dur) (api.Civil, api.Errno) {
	if e := dueError(dueCheck(c), dueCheckDur(d)); e != api.OK {
		return api.Civil{}, e
	}
	sec, nano := dueSecs(c)+d.Sec, c.Clock.N+d.Nano
	if nano >= second {
		sec, nano = sec+1, nano-second
	}
	return dueOf(sec, nano)
}

func dueSub(a, b api.Civil) (api.Dur, api.Errno) {
	if e := dueError(dueCheck(a), dueCheck(b)); e != api.OK {
		return api.Dur{}, e
	}
	sec, nano := dueSecs(a)-dueSecs(b), a.Clock.N-b.Clock.N
	if nano < 0 {
		sec, nano = sec-1, nano+second
	}
	return api.Dur{Sec: sec, Nano: nano}, api.OK
}

// dueCmp goes by the first of the parts in which they differ.
func dueCmp(a, b api.Civil) int {
	x := [7]int{a.Date.Y, a.Date.M, a.Date.D, a.Clock.H, a.Clock.M, a.Clock.S, a.Clock.N}
	y := [7]int{b.Date.Y, b.Date.M, b.Date.D, b.Clock.H, b.Clock.M, b.Clock.S, b.Clock.N}
	for n := range x {
		switch {
		case x[n] < y[n]:
			return -1
		case x[n] > y[n]:
			return 1
		}
	}
	return 0
}

// goodDates are such as may be: the range's edges, and those about leap days and years' ends.
func goodDates() []api.Date {
	var l []api.Date
	for _, y := range []int{-9999, -9998, -9996, -401, -400, -100, -4, -1, 0, 1, 4, 1582, 1900, 1969, 1970, 2000, 2023, 2024, 9996, 9998, 9999} {
		for _, d := range []api.Date{{M: 1, D: 1}, {M: 1, D: 31}, {M: 2, D: 28}, {M: 2, D: 29}, {M: 3, D: 1}, {M: 12, D: 31}} {
			d.Y = y
			if d.D <= dueMonthDays(y, d.M) {
				l = append(l, d)
			}
		}
	}
	return l
}

// badDates are such as may not be, and such as are out of range.
func badDates() []api.Date {
	var l []api.Date
	for _, y := range []int{least, -1 << 32, -10000, -9999, -1, 0, 1900, 2023, 2024, 9999, 10000, 10001, 1 << 32, most} {
		for _, m := range []int{least, -1, 0, 1, 2, 4, 12, 13, 1<<32 + 1, most} {
			for _, d := range []int{least, -1, 0, 1, 28, 29, 30, 31, 32, 1<<32 + 1, most} {
				date := api.Date{Y: y, M: m, D: d}
				if dueCheck(api.Civil{Date: date}) != api.OK {
					l = append(l, date)
				}
			}
		}
	}
	return l
}

func goodClocks() []api.Clock {
	return []api.Clock{
		{}, {N: 1}, {N: lastNano}, {S: 1}, {S: 59}, {M: 1}, {M: 59}, {H: 1}, {H: 12, M: 34, S: 56, N: 789}, {H: 23},
		{H: 23, M: 59, S: 59}, {H: 23, M: 59, S: 59, N: lastNano},
	}
}

func badClocks() []api.Clock {
	return []api.Clock{
		{H: -1}, {H: 24}, {M: -1}, {M: 60}, {S: -1}, {S: 60}, {N: -1}, {N: second}, {H: 23, M: 59, S: 60}, {H: 1, M: -1},
		{H: most}, {M: most}, {S: most}, {N: most}, {H: least}, {M: least}, {S: least}, {N: least}, {H: 1 << 51}, {S: 1 << 55},
		{H: 24, M: 60, S: 60, N: second}, {H: most, M: most, S: most, N: most}, {H: least, M: least, S: least, N: least},
	}
}

func together(dates []api.Date, clocks []api.Clock) []api.Civil {
	var l []api.Civil
	for _, d := range dates {
		for _, c := range clocks {
			l = append(l, api.Civil{Date: d, Clock: c})
		}
	}
	return l
}

// good are civil times that may be.
func good() []api.Civil {
	return together(goodDates(), goodClocks())
}

// bad are such as may not be: by the clock, by the date, by both.
func bad() []api.Civil {
	l := together(goodDates(), badClocks())
	l = append(l, together(badDates(), goodClocks())...)
	return append(l, together(badDates(), badClocks())...)
}

// someBad are a few of each kind.
func someBad() []api.Civil {
	return []api.Civil{
		{}, // month 0
		at(2024, 1, 1, 24, 0, 0, 0), at(2024, 1, 1, 0, 60, 0, 0), at(2024, 1, 1, 0, 0, 60, 0), at(2024, 1, 1, 0, 0, 0, -1),
		at(2023, 2, 29, 0, 0, 0, 0), at(2023, 2, 29, 24, 0, 0, 0), at(2024, 13, 1, 0, 0, 0, 0), at(2024, 1, 0, 0, 0, 0, 0),
		at(10000, 1, 1, 0, 0, 0, 0), at(10000, 1, 1, 0, 0, 0, second), at(10000, 13, 1, 0, 0, 0, 0), at(-10000, 12, 31, 23, 59, 59, lastNano),
		at(most, 1, 1, 0, 0, 0, 0), at(least, 1, 1, 0, 0, 0, 0), at(most, most, most, most, most, most, most),
		at(least, least, least, least, least, least, least), at(most, most, most, 0, 0, 0, 0),
	}
}

// edges are fewer of those that may be, to be held in pairs.
func edges() []api.Civil {
	return []api.Civil{
		first, at(-9999, 1, 1, 0, 0, 0, 1), at(-9999, 12, 31, 23, 59, 59, lastNano), at(-400, 2, 29, 12, 0, 0, 0), at(-1, 12, 31, 23, 59, 59, 0),
		at(0, 1, 1, 0, 0, 0, 0), at(0, 2, 29, 1, 2, 3, 4), at(0, 12, 31, 23, 59, 59, lastNano), at(1, 1, 1, 0, 0, 0, 0),
		at(1582, 10, 10, 6, 30, 15, 500000000), at(1900, 2, 28, 23, 59, 59, lastNano), at(1969, 12, 31, 23, 59, 59, lastNano), start,
		at(1970, 1, 1, 0, 0, 0, 1), at(1970, 1, 2, 0, 0, 1, 0), at(2000, 2, 29, 0, 0, 0, 0), at(2023, 12, 31, 12, 34, 56, 789),
		at(2024, 2, 29, 23, 59, 59, 5), at(2024, 3, 1, 0, 0, 0, 0), at(9999, 1, 1, 0, 0, 0, 0), at(9999, 12, 31, 0, 0, 0, 0),
		at(9999, 12, 31, 23, 59, 59, lastNano-1), last,
	}
}

// durs are such as may be, about a second, a day, a year and the ends of the range, and such as may not.
func durs() []api.Dur {
	var l []api.Dur
	for _, sec := range []int{
		0, 1, 2, 59, 60, 3599, 3600, daySecs - 1, daySecs, daySecs + 1, 365 * daySecs, 366 * daySecs, 12622780800,
		253402300799, 253402300800, 377705116799, 377705116800, 377705116801, 631107417598, 631107417599, 631107417600,
		1<<40 - 1, 1 << 40, 1<<40 + 1, 1 << 62, most - 1, most,
	} {
		for _, nano := range []int{0, 1, 500000000, lastNano - 1, lastNano, -1, second, least, most} {
			l = append(l, api.Dur{Sec: sec, Nano: nano}, api.Dur{Sec: -sec, Nano: nano}, api.Dur{Sec: -sec - 1, Nano: nano})
		}
	}
	return l
}

// 9.1: Check: the clock's error, then the date's; Secs has it too, and 0 beside it

func TestCheck(t *testing.T) {
	for _, c := range []struct {
		c api.Civil
		e api.Errno
	}{
		{start, api.OK},
		{first, api.OK},
		{last, api.OK},
		{at(2024, 2, 29, 23, 59, 59, lastNano), api.OK},
		{at(1582, 10, 10, 0, 0, 0, 0), api.OK},
		{at(2024, 1, 1, 24, 0, 0, 0), api.ErrBadArg},
		{at(2024, 1, 1, 0, 60, 0, 0), api.ErrBadArg},
		{at(2024, 12, 31, 23, 59, 60, 0), api.ErrBadArg},
		{at(2024, 1, 1, 0, 0, 0, second), api.ErrBadArg},
		{at(2024, 1, 1, -1, 0, 0, 0), api.ErrBadArg},
		{at(2024, 1, 1, 0, 0, 0, -1), api.ErrBadArg},
		{at(2023, 2, 29, 0, 0, 0, 0), api.ErrNoSuchDay},
		{at(2023, 2, 29, 24, 0, 0, 0), api.ErrBadArg}, // ahead of ErrNoSuchDay
		{at(10000, 1, 1, 0, 0, 0, 0), api.ErrRange},
		{at(10000, 1, 1, 0, 0, 0, -1), api.ErrBadArg}, // ahead of ErrRange
		{at(10000, 13, 1, 0, 0, 0, 0), api.ErrNoSuchDay},
		{at(10000, 13, 1, 0, 0, 60, 0), api.ErrBadArg},
		{at(-10000, 12, 31, 23, 59, 59, lastNano), api.ErrRange},
		{at(2024, 13, 1, 0, 0, 0, 0), api.ErrNoSuchDay},
		{at(2024, 1, 0, 0, 0, 0, 0), api.ErrNoSuchDay},
		{api.Civil{}, api.ErrNoSuchDay},
		{at(most, 1, 1, 0, 0, 0, 0), api.ErrRange},
		{at(least, 1, 1, 0, 0, 0, 0), api.ErrRange},
		{at(most, most, most, most, most, most, most), api.ErrBadArg},
		{at(least, least, least, least, least, least, least), api.ErrBadArg},
	} {
		if e := dueCheck(c.c); e != c.e {
			t.Errorf("%v is due %d, want %d", c.c, e, c.e)
		}
		holdCheck(t, c.c, c.e)
	}
	for _, c := range good() {
		holdCheck(t, c, api.OK)
	}
	for _, c := range bad() {
		holdCheck(t, c, dueCheck(c))
	}
}

// holdCheck holds the error of Check and Secs, and 0 beside it.
func holdCheck(t *testing.T, c api.Civil, want api.Errno) {
	t.Helper()
	if e := civiltime.Check(c); e != want {
		t.Fatalf("Check(%v) = %d, want %d", c, e, want)
	}
	if sec, e := civiltime.Secs(c); e != want || e != api.OK && sec != 0 {
		t.Fatalf("Secs(%v) = %d, %d, want %d", c, sec, e, want)
	}
}

// 9.1: Secs, and 9.2: Of back: the chapter's examples, the edges, and others written out by hand

func TestSecs(t *testing.T) {
	for _, c := range []struct {
		c    api.Civil
		want int
	}{
		{at(1970, 1, 2, 0, 0, 1, 0), 86401},
		{start, 0},
		{at(1970, 1, 1, 0, 0, 0, lastNano), 0}, // the nanoseconds are not counted
		{at(1970, 1, 1, 0, 0, 1, 0), 1},
		{at(1970, 1, 1, 0, 1, 0, 0), 60},
		{at(1970, 1, 1, 1, 0, 0, 0), 3600},
		{at(1970, 1, 1, 23, 59, 59, lastNano), 86399},
		{at(1970, 1, 2, 0, 0, 0, 0), 86400},
		{at(1969, 12, 31, 23, 59, 59, 0), -1},
		{at(1969, 12, 31, 23, 59, 59, 5), -1},
		{at(1969, 12, 31, 23, 59, 59, lastNano), -1},
		{at(1969, 12, 31, 23, 59, 58, lastNano), -2},
		{at(1969, 12, 31, 0, 0, 0, 0), -86400},
		{at(1969, 12, 30, 23, 59, 59, 1), -86401},
		{at(2000, 3, 1, 0, 0, 0, 0), 951868800},
		{at(2001, 9, 9, 1, 46, 40, 0), 1000000000},
		{at(2024, 2, 29, 23, 59, 59, 5), 1709251199},
		{at(2038, 1, 19, 3, 14, 8, 0), 1 << 31},
		{at(2106, 2, 7, 6, 28, 16, 0), 1 << 32},
		{at(1, 1, 1, 0, 0, 0, 0), -62135596800},
		{at(0, 1, 1, 0, 0, 0, 0), -62167219200},
		{first, api.MinSec},
		{last, api.MaxSec},
	} {
		hold(t, c.c, c.want)
	}
	for _, c := range good() {
		hold(t, c, dueSecs(c))
	}
}

// hold holds that Secs(c) tells sec, and Of of these and c's nanoseconds c.
func hold(t *testing.T, c api.Civil, sec int) {
	t.Helper()
	if got, e := civiltime.Secs(c); got != sec || e != api.OK {
		t.Fatalf("Secs(%v) = %d, %d, want %d", c, got, e, sec)
	}
	if got, e := civiltime.Of(sec, c.Clock.N); got != c || e != api.OK {
		t.Fatalf("Of(%d, %d) = %v, %d, want %v", sec, c.Clock.N, got, e, c)
	}
}

// next is the day behind a date that may be.
func next(d api.Date) api.Date {
	switch {
	case d.D < dueMonthDays(d.Y, d.M):
		return api.Date{Y: d.Y, M: d.M, D: d.D + 1}
	case d.M < 12:
		return api.Date{Y: d.Y, M: d.M + 1, D: 1}
	}
	return api.Date{Y: d.Y + 1, M: 1, D: 1}
}

// 9.1 and 9.2: Secs and Of, of all days in range, one by one, at a second of each that changes from day to day

func TestAllDays(t *testing.T) {
	d := first.Date
	n := 0
	for midnight := api.MinSec; midnight <= api.MaxSec; midnight += daySecs {
		past := n * 12345 % daySecs
		clock := api.Clock{H: past / 3600, M: past / 60 % 60, S: past % 60, N: n * 12345 % second}
		hold(t, api.Civil{Date: d, Clock: clock}, midnight+past)
		d = next(d)
		n++
	}
	if d != (api.Date{Y: 10000, M: 1, D: 1}) {
		t.Errorf("the walk ends at %v", d)
	}
}

// 9.1 and 9.2: Secs and Of, of all seconds of a day behind second 0 and of the one ahead

func TestAllSeconds(t *testing.T) {
	for sec := range daySecs {
		clock := api.Clock{H: sec / 3600, M: sec / 60 % 60, S: sec % 60, N: lastNano - sec}
		hold(t, api.Civil{Date: start.Date, Clock: clock}, sec)
		hold(t, api.Civil{Date: api.Date{Y: 1969, M: 12, D: 31}, Clock: clock}, sec-daySecs)
	}
}

// 9.1: Of: ErrBadArg, unless nano is 0 to 999999999, ahead of ErrRange; nothing beside an error

func TestOf(t *testing.T) {
	for _, c := range []struct {
		sec, nano int
		want      api.Civil
		e         api.Errno
	}{
		{-1, 5, at(1969, 12, 31, 23, 59, 59, 5), api.OK},
		{0, 0, start, api.OK},
		{0, lastNano, at(1970, 1, 1, 0, 0, 0, lastNano), api.OK},
		{-1, lastNano, at(1969, 12, 31, 23, 59, 59, lastNano), api.OK},
		{0, -1, api.Civil{}, api.ErrBadArg},
		{0, second, api.Civil{}, api.ErrBadArg},
		{0, least, api.Civil{}, api.ErrBadArg},
		{0, most, api.Civil{}, api.ErrBadArg},
		{api.MinSec, 0, first, api.OK},
		{api.MinSec - 1, lastNano, api.Civil{}, api.ErrRange},
		{api.MinSec - 1, second, api.Civil{}, api.ErrBadArg},
		{api.MinSec, -1, api.Civil{}, api.ErrBadArg},
		{api.MaxSec, lastNano, last, api.OK},
		{api.MaxSec, second, api.Civil{}, api.ErrBadArg},
		{api.MaxSec + 1, 0, api.Civil{}, api.ErrRange},
		{api.MaxSec + 1, -1, api.Civil{}, api.ErrBadArg},
		{1 << 40, 0, api.Civil{}, api.ErrRange},
		{1<<40 + 1, 0, api.Civil{}, api.ErrRange},
		{-1 << 40, 0, api.Civil{}, api.ErrRange},
		{-1<<40 - 1, 0, api.Civil{}, api.ErrRange},
		{most, 0, api.Civil{}, api.ErrRange},
		{least, 0, api.Civil{}, api.ErrRange},
		{most, most, api.Civil{}, api.ErrBadArg},
		{least, least, api.Civil{}, api.ErrBadArg},
	} {
		if got, e := civiltime.Of(c.sec, c.nano); got != c.want || e != c.e {
			t.Errorf("Of(%d, %d) = %v, %d, want %v, %d", c.sec, c.nano, got, e, c.want, c.e)
		}
	}
}

func TestOfAll(t *testing.T) {
	secs := []int{least, least + 1, most - 1, most}
	for sec := api.MinSec - 10*97654321; sec <= api.MaxSec+10*97654321; sec += 97654321 {
		secs = append(secs, sec)
	}
	for _, middle := range []int{0, api.MinSec, api.MaxSec, 1 << 31, 1 << 32, -1 << 31, 1 << 40, -1 << 40, 1 << 62, -1 << 62} {
		for by := -3; by <= 3; by++ {
			secs = append(secs, middle+by, middle+by*daySecs)
		}
	}
	for _, sec := range secs {
		for _, nano := range []int{0, 1, lastNano, -1, second, least, most} {
			want, wantE := dueOf(sec, nano)
			if got, e := civiltime.Of(sec, nano); got != want || e != wantE {
				t.Fatalf("Of(%d, %d) = %v, %d, want %v, %d", sec, nano, got, e, want, wantE)
			}
		}
	}
}

// 9.1: Add: the chapter's example, the edges, and others written out by hand

func TestAdd(t *testing.T) {
	leap := at(2024, 2, 29, 23, 59, 59, 5)
	for _, c := range []struct {
		c    api.Civil
		d    api.Dur
		want api.Civil
		e    api.Errno
	}{
		{last, api.Dur{Nano: 1}, api.Civil{}, api.ErrRange},
		{last, api.Dur{}, last, api.OK},
		{last, api.Dur{Sec: 1}, api.Civil{}, api.ErrRange},
		{first, api.Dur{}, first, api.OK},
		{first, api.Dur{Sec: -1}, api.Civil{}, api.ErrRange},
		{first, api.Dur{Sec: -1, Nano: lastNano}, api.Civil{}, api.ErrRange},
		{first, api.Dur{Sec: 631107417599, Nano: lastNano}, last, api.OK},
		{first, api.Dur{Sec: 631107417600}, api.Civil{}, api.ErrRange},
		{last, api.Dur{Sec: -631107417600, Nano: 1}, first, api.OK},
		{last, api.Dur{Sec: -631107417600}, api.Civil{}, api.ErrRange},
		{leap, api.Dur{Nano: 999999995}, at(2024, 3, 1, 0, 0, 0, 0), api.OK},
		{leap, api.Dur{Nano: 999999994}, at(2024, 2, 29, 23, 59, 59, lastNano), api.OK},
		{leap, api.Dur{Sec: -1, Nano: 999999994}, at(2024, 2, 29, 23, 59, 58, lastNano), api.OK},
		{leap, api.Dur{Sec: 366 * daySecs}, at(2025, 3, 1, 23, 59, 59, 5), api.OK},
		{leap, api.Dur{Sec: -365 * daySecs}, at(2023, 3, 1, 23, 59, 59, 5), api.OK},
		{at(1, 1, 1, 0, 0, 0, 0), api.Dur{Sec: -1, Nano: lastNano}, at(0, 12, 31, 23, 59, 59, lastNano), api.OK},
		{at(0, 1, 1, 0, 0, 0, 0), api.Dur{Sec: -1}, at(-1, 12, 31, 23, 59, 59, 0), api.OK},
		{at(1582, 10, 4, 12, 0, 0, 0), api.Dur{Sec: daySecs}, at(1582, 10, 5, 12, 0, 0, 0), api.OK},
		{start, api.Dur{Sec: 1 << 40}, api.Civil{}, api.ErrRange},
		{start, api.Dur{Sec: -1 << 40}, api.Civil{}, api.ErrRange},
		{start, api.Dur{Sec: 1 << 40, Nano: 1}, api.Civil{}, api.ErrRange},
		{start, api.Dur{Sec: most}, api.Civil{}, api.ErrRange},
		{start, api.Dur{Sec: least}, api.Civil{}, api.ErrRange},
		{start, api.Dur{Nano: -1}, api.Civil{}, api.ErrBadArg},
		{start, api.Dur{Nano: second}, api.Civil{}, api.ErrBadArg},
		{start, api.Dur{Sec: most, Nano: second}, api.Civil{}, api.ErrBadArg},
		{last, api.Dur{Sec: 1, Nano: -1}, api.Civil{}, api.ErrBadArg},
		{at(2024, 1, 1, 24, 0, 0, 0), api.Dur{Sec: -1}, api.Civil{}, api.ErrBadArg},
		{at(2024, 1, 1, 24, 0, 0, 0), api.Dur{Sec: most}, api.Civil{}, api.ErrBadArg},
		{at(2023, 2, 29, 0, 0, 0, 0), api.Dur{}, api.Civil{}, api.ErrNoSuchDay},
		{at(2023, 2, 29, 0, 0, 0, 0), api.Dur{Nano: -1}, api.Civil{}, api.ErrBadArg}, // d's, ahead of c's ErrNoSuchDay
		{at(2023, 2, 29, 0, 0, 0, 0), api.Dur{Sec: most}, api.Civil{}, api.ErrNoSuchDay},
		{at(2023, 2, 29, 24, 0, 0, 0), api.Dur{Sec: most}, api.Civil{}, api.ErrBadArg},
		{at(10000, 1, 1, 0, 0, 0, 0), api.Dur{Sec: -1}, api.Civil{}, api.ErrRange}, // though the result were in range
		{at(-10000, 12, 31, 23, 59, 59, 0), api.Dur{Sec: 1}, api.Civil{}, api.ErrRange},
		{at(10000, 1, 1, 0, 0, 0, 0), api.Dur{Nano: second}, api.Civil{}, api.ErrBadArg},
		{at(10000, 1, 1, 0, 0, 0, 0), api.Dur{Sec: 1<<40 + 1}, api.Civil{}, api.ErrRange},
		{at(10000, 1, 0, 0, 0, 0, 0), api.Dur{Sec: 1<<40 + 1}, api.Civil{}, api.ErrNoSuchDay},
	} {
		if got, e := civiltime.Add(c.c, c.d); got != c.want || e != c.e {
			t.Errorf("Add(%v, %v) = %v, %d, want %v, %d", c.c, c.d, got, e, c.want, c.e)
		}
	}
}

// 9.1: Add, of all edges and all durations

func TestAddAll(t *testing.T) {
	for _, c := range append(good(), someBad()...) {
		for _, d := range durs() {
			want, wantE := dueAdd(c, d)
			if got, e := civiltime.Add(c, d); got != want || e != wantE {
				t.Fatalf("Add(%v, %v) = %v, %d, want %v, %d", c, d, got, e, want, wantE)
			}
		}
	}
	for _, c := range bad() {
		for _, d := range []api.Dur{{}, {Sec: -1, Nano: 1}, {Nano: -1}, {Sec: 1<<40 + 1}, {Sec: least, Nano: second}} {
			want := dueError(dueCheck(c), dueCheckDur(d))
			if got, e := civiltime.Add(c, d); got != (api.Civil{}) || e != want {
				t.Fatalf("Add(%v, %v) = %v, %d, want %d", c, d, got, e, want)
			}
		}
	}
}

// 9.1: Sub: from b to a, the edges, and others written out by hand

func TestSub(t *testing.T) {
	leap := at(2024, 2, 29, 23, 59, 59, 5)
	for _, c := range []struct {
		a, b api.Civil
		want api.Dur
		e    api.Errno
	}{
		{at(2024, 3, 1, 0, 0, 0, 0), leap, api.Dur{Nano: 999999995}, api.OK},
		{leap, at(2024, 3, 1, 0, 0, 0, 0), api.Dur{Sec: -1, Nano: 5}, api.OK},
		{leap, leap, api.Dur{}, api.OK},
		{at(1970, 1, 2, 0, 0, 1, 0), start, api.Dur{Sec: 86401}, api.OK},
		{start, at(1970, 1, 2, 0, 0, 1, 0), api.Dur{Sec: -86401}, api.OK},
		{at(1970, 1, 1, 0, 0, 0, 1), start, api.Dur{Nano: 1}, api.OK},
		{start, at(1970, 1, 1, 0, 0, 0, 1), api.Dur{Sec: -1, Nano: lastNano}, api.OK},
		{at(2000, 1, 1, 1, 0, 0, 3), at(2000, 1, 1, 0, 59, 59, 4), api.Dur{Nano: lastNano}, api.OK},
		{at(2001, 1, 1, 0, 0, 0, 0), at(2000, 1, 1, 0, 0, 0, 0), api.Dur{Sec: 366 * daySecs}, api.OK},
		{at(1, 1, 1, 0, 0, 0, 0), at(-1, 1, 1, 0, 0, 0, 0), api.Dur{Sec: 731 * daySecs}, api.OK},
		{last, first, api.Dur{Sec: 631107417599, Nano: lastNano}, api.OK},
		{first, last, api.Dur{Sec: -631107417600, Nano: 1}, api.OK},
		{at(2024, 1, 1, 24, 0, 0, 0), start, api.Dur{}, api.ErrBadArg},
		{start, at(2024, 1, 1, 0, 0, 0, -1), api.Dur{}, api.ErrBadArg},
		{at(2023, 2, 29, 0, 0, 0, 0), start, api.Dur{}, api.ErrNoSuchDay},
		{start, at(2023, 2, 29, 0, 0, 0, 0), api.Dur{}, api.ErrNoSuchDay},
		{at(10000, 1, 1, 0, 0, 0, 0), start, api.Dur{}, api.ErrRange},
		{start, at(-10000, 12, 31, 23, 59, 59, 0), api.Dur{}, api.ErrRange},
		{at(10000, 1, 1, 0, 0, 0, 0), at(10000, 1, 1, 0, 0, 0, 0), api.Dur{}, api.ErrRange},
		{at(10000, 1, 1, 0, 0, 0, 0), at(2023, 2, 29, 0, 0, 0, 0), api.Dur{}, api.ErrNoSuchDay},
		{at(2023, 2, 29, 0, 0, 0, 0), at(10000, 1, 1, 0, 0, 0, 0), api.Dur{}, api.ErrNoSuchDay},
		{at(2023, 2, 29, 0, 0, 0, 0), at(2024, 1, 1, 24, 0, 0, 0), api.Dur{}, api.ErrBadArg},
		{at(10000, 1, 1, 0, 0, 0, 0), at(2024, 1, 1, 0, 0, 60, 0), api.Dur{}, api.ErrBadArg},
		{at(most, 1, 1, 0, 0, 0, 0), at(least, 1, 1, 0, 0, 0, 0), api.Dur{}, api.ErrRange},
	} {
		if got, e := civiltime.Sub(c.a, c.b); got != c.want || e != c.e {
			t.Errorf("Sub(%v, %v) = %v, %d, want %v, %d", c.a, c.b, got, e, c.want, c.e)
		}
	}
}

// 9.1: Sub, of all pairs, and Add of it back

func TestSubAll(t *testing.T) {
	all := append(good(), someBad()...)
	for _, a := range all {
		for _, b := range all {
			want, wantE := dueSub(a, b)
			got, e := civiltime.Sub(a, b)
			if got != want || e != wantE {
				t.Fatalf("Sub(%v, %v) = %v, %d, want %v, %d", a, b, got, e, want, wantE)
			}
		}
	}
	for _, a := range edges() {
		for _, b := range edges() {
			d, _ := civiltime.Sub(a, b)
			if back, e := civiltime.Add(b, d); back != a || e != api.OK {
				t.Fatalf("Add(%v, Sub(%v, %v)) = %v, %d", b, a, b, back, e)
			}
		}
	}
	for _, b := range bad() {
		want := dueCheck(b)
		if got, e := civiltime.Sub(last, b); got != (api.Dur{}) || e != want {
			t.Fatalf("Sub(%v, %v) = %v, %d, want %d", last, b, got, e, want)
		}
		if got, e := civiltime.Sub(b, last); got != (api.Dur{}) || e != want {
			t.Fatalf("Sub(%v, %v) = %v, %d, want %d", b, last, got, e, want)
		}
	}
}

// 9.1: Cmp: by dates, then by H, M, S, N, of any numbers

func TestCmp(t *testing.T) {
	rising := []api.Civil{
		at(least, least, least, least, least, least, least), at(least, least, least, least, least, least, most), at(least, least, least, most, most, most, most),
		at(-10000, 12, 31, 23, 59, 59, lastNano), first, at(-9999, 1, 1, 0, 0, 0, 1), at(0, 0, 0, 0, 0, 0, -1), {}, at(0, 0, 0, 0, 0, 0, 1),
		at(2023, 12, 31, 99, 99, 99, most), at(2024, 1, 31, 99, 0, 0, 0), at(2024, 2, 28, 23, 59, 59, lastNano),
		at(2024, 2, 29, least, 0, 0, 0), at(2024, 2, 29, -1, 99, 99, 99), at(2024, 2, 29, 0, least, 99, 99), at(2024, 2, 29, 0, -1, 99, 99),
		at(2024, 2, 29, 0, 0, least, 99), at(2024, 2, 29, 0, 0, -1, 99), at(2024, 2, 29, 0, 0, 0, least), at(2024, 2, 29, 0, 0, 0, 0),
		at(2024, 2, 29, 0, 0, 0, 5), at(2024, 2, 29, 0, 0, 1, 4), at(2024, 2, 29, 0, 1, 0, 3), at(2024, 2, 29, 1, 0, 0, 2),
		at(2024, 2, 29, most, 0, 0, 0), at(2024, 2, 30, 0, 0, 0, 1), at(2024, 3, 1, 0, 0, 0, 0), at(2025, 1, 1, 0, 0, 0, 0),
		last, at(10000, 1, 1, 0, 0, 0, 0), at(most, most, most, least, most, most, most), at(most, most, most, most, most, most, least),
		at(most, most, most, most, most, most, most),
	}
	for n, a := range rising {
		for m, b := range rising {
			want := 0
			switch {
			case n < m:
				want = -1
			case n > m:
				want = 1
			}
			if got := civiltime.Cmp(a, b); got != want {
				t.Errorf("Cmp(%v, %v) = %d, want %d", a, b, got, want)
			}
		}
	}
	for _, a := range append(good(), someBad()...) {
		for _, b := range append(edges(), someBad()...) {
			if got, want := civiltime.Cmp(a, b), dueCmp(a, b); got != want {
				t.Fatalf("Cmp(%v, %v) = %d, want %d", a, b, got, want)
			}
			if got, want := civiltime.Cmp(b, a), -dueCmp(a, b); got != want {
				t.Fatalf("Cmp(%v, %v) = %d, want %d", b, a, got, want)
			}
		}
	}
}

// 9.1: the greater one by Cmp is the later one by Sub

func TestCmpOfSub(t *testing.T) {
	for _, a := range edges() {
		for _, b := range edges() {
			d, _ := civiltime.Sub(a, b)
			want := 0
			switch {
			case d.Sec < 0:
				want = -1
			case d != (api.Dur{}):
				want = 1
			}
			if got := civiltime.Cmp(a, b); got != want {
				t.Errorf("Cmp(%v, %v) = %d, want %d: Sub is %v", a, b, got, want, d)
			}
		}
	}
}
