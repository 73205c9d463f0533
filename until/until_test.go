package until_test

// Each test names what it holds of promises 12.1 and 12.2 (shared/doc/12-until.md).
// What the differences should be is told by a walk from the one date to the other,
// month by month, and by the library's time for days, beside values that are written
// out by hand.

import (
	"cmp"
	"math"
	"testing"
	"time"

	"analemma/api"
	"analemma/months"
	"analemma/until"
)

const (
	most    = math.MaxInt
	least   = math.MinInt
	minYear = -9999
	maxYear = 9999
	minDay  = -4371587
	maxDay  = 2932896
)

func date(y, m, d int) api.Date {
	return api.Date{Y: y, M: m, D: d}
}

func of(years, months, days int) api.Period {
	return api.Period{Years: years, Months: months, Days: days}
}

func longYear(y int) bool {
	return y%400 == 0 || y%4 == 0 && y%100 != 0
}

// length is a month's days, written out.
func length(y, m int) int {
	switch m {
	case 1, 3, 5, 7, 8, 10, 12:
		return 31
	case 4, 6, 9, 11:
		return 30
	case 2:
		if longYear(y) {
			return 29
		}
		return 28
	}
	return 0
}

// may is what civil.Check must say of a date.
func may(d api.Date) api.Errno {
	switch {
	case d.D < 1 || d.D > length(d.Y, d.M):
		return api.ErrNoSuchDay
	case d.Y < minYear || d.Y > maxYear:
		return api.ErrRange
	}
	return api.OK
}

// order is -1 where a is ahead of b, 1 where it is behind.
func order(a, b api.Date) int {
	return cmp.Or(cmp.Compare(a.Y, b.Y), cmp.Compare(a.M, b.M), cmp.Compare(a.D, b.D))
}

// number is a date's day, by the library's time.
func number(d api.Date) int {
	return int(time.Date(d.Y, time.Month(d.M), d.D, 0, 0, 0, 0, time.UTC).Unix() / 86400)
}

// day is the date of a number, by the library's time.
func day(n int) api.Date {
	y, m, d := time.Unix(int64(n)*86400, 0).UTC().Date()
	return date(y, int(m), d)
}

// due is what Months and Until must answer of two dates in range: month by month, till the next one would pass b or leave the range.
func due(a, b api.Date) (int, api.Period) {
	step := 1
	if order(a, b) > 0 {
		step = -1
	}
	n, at := 0, a
	for y, m := a.Y, a.M; ; n += step {
		m += step
		if m == 13 {
			y, m = y+1, 1
		} else if m == 0 {
			y, m = y-1, 12
		}
		next := date(y, m, min(a.D, length(y, m)))
		if y < minYear || y > maxYear || order(next, b) == step {
			break
		}
		at = next
	}
	p := of(0, n, number(b)-number(at))
	for p.Months >= 12 {
		p.Years, p.Months = p.Years+1, p.Months-12
	}
	for p.Months <= -12 {
		p.Years, p.Months = p.Years-1, p.Months+12
	}
	return n, p
}

func holdUntil(t *testing.T, a, b api.Date, want api.Period, wantE api.Errno) {
	t.Helper()
	if got, e := until.Until(a, b); got != want || e != wantE {
		t.Fatalf("Until(%v, %v) = %v, %d, want %v, %d", a, b, got, e, want, wantE)
	}
}

func holdMonths(t *testing.T, a, b api.Date, want int, wantE api.Errno) {
	t.Helper()
	if got, e := until.Months(a, b); got != want || e != wantE {
		t.Fatalf("Months(%v, %v) = %d, %d, want %d, %d", a, b, got, e, want, wantE)
	}
}

func holdDue(t *testing.T, a, b api.Date) {
	t.Helper()
	n, p := due(a, b)
	holdMonths(t, a, b, n, api.OK)
	holdUntil(t, a, b, p, api.OK)
}

// 12.1, Until: the chapter's examples, both ways, to days that a month has not, over ends of years and year 0

func TestUntil(t *testing.T) {
	for _, c := range []struct {
		a, b api.Date
		want api.Period
	}{
		{date(2024, 1, 31), date(2024, 3, 1), of(0, 1, 1)},
		{date(2024, 3, 31), date(2024, 2, 29), of(0, -1, 0)},
		{date(2020, 2, 29), date(2021, 2, 28), of(1, 0, 0)},
		{date(2024, 5, 5), date(2024, 5, 5), of(0, 0, 0)},
		{date(2024, 2, 29), date(2024, 2, 29), of(0, 0, 0)},
		{date(2024, 5, 5), date(2024, 5, 6), of(0, 0, 1)},
		{date(2024, 5, 6), date(2024, 5, 5), of(0, 0, -1)},
		{date(2024, 5, 5), date(2024, 6, 4), of(0, 0, 30)},
		{date(2024, 5, 5), date(2024, 6, 5), of(0, 1, 0)},
		{date(2024, 5, 5), date(2024, 6, 6), of(0, 1, 1)},
		{date(2024, 6, 6), date(2024, 5, 7), of(0, 0, -30)},
		{date(2024, 6, 6), date(2024, 5, 6), of(0, -1, 0)},
		{date(2024, 6, 6), date(2024, 5, 5), of(0, -1, -1)},
		{date(2024, 3, 1), date(2024, 1, 31), of(0, -1, -1)},
		{date(2024, 2, 29), date(2024, 3, 31), of(0, 1, 2)},
		{date(2024, 1, 31), date(2024, 2, 29), of(0, 1, 0)},
		{date(2024, 2, 29), date(2024, 1, 31), of(0, 0, -29)}, // not what leads there, turned round
		{date(2024, 1, 30), date(2024, 2, 28), of(0, 0, 29)},
		{date(2023, 1, 31), date(2023, 2, 28), of(0, 1, 0)},
		{date(2023, 1, 28), date(2023, 2, 28), of(0, 1, 0)},
		{date(2023, 1, 29), date(2023, 3, 1), of(0, 1, 1)},
		{date(2023, 1, 31), date(2023, 3, 30), of(0, 1, 30)}, // greedy: from 2023-02-28 on
		{date(2023, 5, 31), date(2023, 6, 30), of(0, 1, 0)},
		{date(2023, 7, 31), date(2023, 6, 30), of(0, -1, 0)},
		{date(2023, 7, 31), date(2023, 7, 1), of(0, 0, -30)},
		{date(2023, 7, 31), date(2023, 6, 29), of(0, -1, -1)},
		{date(2020, 2, 29), date(2021, 2, 27), of(0, 11, 29)},
		{date(2020, 2, 29), date(2024, 2, 28), of(3, 11, 30)},
		{date(2020, 2, 29), date(2024, 2, 29), of(4, 0, 0)},
		{date(2024, 2, 29), date(2020, 3, 1), of(-3, -11, -28)},
		{date(2024, 2, 29), date(2023, 2, 28), of(-1, 0, 0)},
		{date(2021, 2, 28), date(2020, 2, 29), of(0, -11, -28)},
		{date(2021, 2, 28), date(2020, 2, 28), of(-1, 0, 0)},
		{date(2023, 12, 31), date(2024, 1, 1), of(0, 0, 1)},
		{date(2024, 1, 1), date(2023, 12, 31), of(0, 0, -1)},
		{date(2023, 12, 31), date(2024, 12, 30), of(0, 11, 30)},
		{date(2023, 12, 31), date(2024, 12, 31), of(1, 0, 0)},
		{date(2096, 2, 29), date(2104, 2, 29), of(8, 0, 0)},
		{date(2096, 2, 29), date(2100, 2, 28), of(4, 0, 0)},
		{date(1996, 2, 29), date(2000, 2, 28), of(3, 11, 30)},
		{date(-1, 12, 31), date(0, 1, 1), of(0, 0, 1)},
		{date(-1, 12, 31), date(0, 2, 29), of(0, 2, 0)},
		{date(1, 3, 31), date(-1, 2, 28), of(-2, -1, 0)},
		{date(-4, 2, 29), date(4, 2, 28), of(7, 11, 30)},
		{date(1970, 1, 1), date(2000, 3, 1), of(30, 2, 0)},
		{date(-9999, 1, 1), date(9999, 12, 31), of(19998, 11, 30)},
		{date(9999, 12, 31), date(-9999, 1, 1), of(-19998, -11, -30)},
		{date(-9999, 1, 31), date(9999, 12, 31), of(19998, 11, 0)},
		{date(9999, 11, 30), date(9999, 12, 31), of(0, 1, 1)}, // one month more leads out of range
		{date(9999, 11, 30), date(9999, 12, 29), of(0, 0, 29)},
		{date(9999, 12, 1), date(9999, 12, 31), of(0, 0, 30)},
		{date(-9999, 1, 31), date(-9999, 1, 1), of(0, 0, -30)},
		{date(-9999, 2, 28), date(-9999, 1, 1), of(0, -1, -27)},
		{date(-9999, 2, 1), date(-9999, 1, 2), of(0, 0, -30)},
	} {
		holdUntil(t, c.a, c.b, c.want, api.OK)
	}
}

// 12.1, Months: of greatest amount, not past b; 0 of dates less than a month apart

func TestMonths(t *testing.T) {
	for _, c := range []struct {
		a, b api.Date
		want int
	}{
		{date(2024, 1, 31), date(2024, 3, 1), 1},
		{date(2024, 3, 31), date(2024, 2, 29), -1},
		{date(2020, 2, 29), date(2021, 2, 28), 12},
		{date(2024, 1, 31), date(2026, 1, 30), 23},
		{date(2024, 1, 31), date(2026, 1, 31), 24},
		{date(2026, 1, 30), date(2024, 1, 31), -23},
		{date(2026, 1, 30), date(2024, 1, 30), -24},
		{date(2024, 5, 5), date(2024, 5, 5), 0},
		{date(2024, 5, 1), date(2024, 5, 31), 0},
		{date(2024, 5, 31), date(2024, 5, 1), 0},
		{date(2024, 5, 31), date(2024, 6, 29), 0},
		{date(2024, 5, 31), date(2024, 6, 30), 1},
		{date(2024, 6, 30), date(2024, 5, 31), 0},
		{date(2024, 6, 30), date(2024, 5, 30), -1},
		{date(2023, 12, 31), date(2024, 1, 1), 0},
		{date(-1, 12, 1), date(0, 1, 1), 1},
		{date(0, 1, 1), date(-1, 12, 1), -1},
		{date(0, 1, 1), date(-1, 12, 2), 0},
		{date(5, 6, 7), date(-5, 6, 7), -120},
		{date(-9999, 1, 1), date(9999, 12, 31), 239987},
		{date(9999, 12, 31), date(-9999, 1, 1), -239987},
		{date(9999, 12, 1), date(-9999, 1, 1), -239987},
		{date(9999, 12, 1), date(-9999, 1, 2), -239986},
		{date(-9999, 1, 31), date(9999, 12, 30), 239986},
	} {
		holdMonths(t, c.a, c.b, c.want, api.OK)
	}
}

// windows are first days and lengths of stretches in which all pairs of dates are asked: years of all kinds, year 0, both ends.
func windows() [][2]int {
	return [][2]int{
		{number(date(2023, 12, 1)), 460}, // a leap day
		{number(date(2021, 1, 1)), 430},  // none
		{number(date(2099, 12, 1)), 125},
		{number(date(1999, 12, 1)), 125},
		{number(date(-1, 11, 15)), 200},
		{number(date(-101, 12, 1)), 125},
		{minDay, 130},
		{maxDay - 129, 130},
	}
}

func TestAllNearPairs(t *testing.T) {
	for _, w := range windows() {
		var dates []api.Date
		for n := range w[1] {
			dates = append(dates, day(w[0]+n))
		}
		for _, a := range dates {
			for _, b := range dates {
				holdDue(t, a, b)
			}
		}
	}
}

// ends are the last days of months of all lengths, the first ones and one between, in years all over the range.
func ends() []api.Date {
	var l []api.Date
	for _, y := range []int{minYear, -9996, -401, -400, -1, 0, 1, 1582, 1900, 2000, 2023, 2024, 9996, maxYear} {
		l = append(l, date(y, 1, 1), date(y, 1, 31), date(y, 2, length(y, 2)), date(y, 4, 30), date(y, 11, 15), date(y, 12, 31))
	}
	return l
}

func TestFarPairs(t *testing.T) {
	for _, a := range ends() {
		for _, b := range ends() {
			holdDue(t, a, b)
		}
	}
}

// 12.2 and T6: Plus of the difference is b; and the difference is greedy: the next month passes b or is out of range

func holdThere(t *testing.T, a, b api.Date) {
	t.Helper()
	p, e := until.Until(a, b)
	n, f := until.Months(a, b)
	if e != api.OK || f != api.OK || p.Years*12+p.Months != n || p.Months < -11 || p.Months > 11 {
		t.Fatalf("Until(%v, %v) = %v, %d, Months %d, %d", a, b, p, e, n, f)
	}
	step := 1
	if order(a, b) > 0 {
		step = -1
	}
	if p.Years*step < 0 || p.Months*step < 0 || p.Days*step < 0 {
		t.Fatalf("Until(%v, %v) = %v is of the wrong sign", a, b, p)
	}
	if got, e := months.Plus(a, p, api.Clamp); got != b || e != api.OK {
		t.Fatalf("Plus(%v, %v) = %v, %d, want %v", a, p, got, e, b)
	}
	if next, e := months.Add(a, n+step, api.Clamp); e == api.OK && order(next, b) != step {
		t.Fatalf("Months(%v, %v) = %d, but the next month, %v, does not pass", a, b, n, next)
	}
}

func TestThere(t *testing.T) {
	for _, w := range windows() {
		for n := 0; n < w[1]; n += 3 {
			for m := range w[1] {
				holdThere(t, day(w[0]+n), day(w[0]+m))
			}
		}
	}
	state := uint64(12)
	next := func() int { // the same row of days every time
		state = state*6364136223846793005 + 1442695040888963407
		return minDay + int(state>>20%(maxDay-minDay+1))
	}
	for range 100000 {
		a, b := next(), next()
		holdThere(t, day(a), day(b))
		holdThere(t, day(a), day(max(minDay, min(maxDay, a+b%800))))
	}
}

// wrong are dates that may not be, and such as are out of range, with numbers that wrap too.
func wrong() []api.Date {
	l := []api.Date{{}}
	for _, y := range []int{2023, minYear, maxYear, 10000, -10000, 1 << 32, most, least} {
		for _, n := range []int{0, -1, 32, 1<<32 + 1, most, least} {
			l = append(l, date(y, 1, n), date(y, n, 1))
		}
		l = append(l, date(y, 13, 1), date(y, 2, 30), date(y, 4, 31), date(y, 11, 31))
	}
	for _, y := range []int{10000, -10000, 10001, -12000, 1 << 32, -1 << 32, 1 << 62, most / 12, most, least, least / 12} {
		l = append(l, date(y, 1, 1), date(y, 12, 31), date(y, 2, 28))
	}
	return append(l, date(2023, 2, 29), date(1900, 2, 29), date(-1, 2, 29), date(-100, 2, 29))
}

// 12.1: Check's error of a ahead of that of b, whichever number is the lesser; nothing beside it

func TestWrong(t *testing.T) {
	bad := wrong()
	good := ends()
	for _, a := range bad {
		e := may(a)
		if e == api.OK {
			t.Fatalf("%v may be", a)
		}
		for _, b := range append(good, bad...) {
			holdMonths(t, a, b, 0, e)
			holdUntil(t, a, b, api.Period{}, e)
		}
		for _, b := range good {
			holdMonths(t, b, a, 0, e)
			holdUntil(t, b, a, api.Period{}, e)
		}
	}
}

func TestWrongByHand(t *testing.T) {
	for _, c := range []struct {
		a, b api.Date
		e    api.Errno
	}{
		{date(10000, 1, 1), date(2023, 2, 29), api.ErrRange},
		{date(2023, 2, 29), date(10000, 1, 1), api.ErrNoSuchDay},
		{date(2023, 2, 28), date(2023, 2, 29), api.ErrNoSuchDay},
		{date(2023, 2, 29), date(2023, 2, 28), api.ErrNoSuchDay},
		{date(2023, 2, 29), date(2023, 2, 29), api.ErrNoSuchDay},
		{date(9999, 12, 31), date(10000, 1, 1), api.ErrRange},
		{date(10000, 1, 1), date(9999, 12, 31), api.ErrRange},
		{date(10000, 1, 1), date(10000, 1, 1), api.ErrRange},
		{date(-9999, 1, 1), date(-10000, 12, 31), api.ErrRange},
		{date(10000, 13, 1), date(10000, 1, 1), api.ErrNoSuchDay},
		{date(2024, 1, 1), date(10000, 2, 30), api.ErrNoSuchDay},
		{date(2024, 0, 1), date(2024, 1, 1), api.ErrNoSuchDay},
		{date(2024, 1, 1), date(2024, 1, 0), api.ErrNoSuchDay},
		{date(least, 1, 1), date(most, 1, 1), api.ErrRange},
		{api.Date{}, api.Date{}, api.ErrNoSuchDay},
	} {
		holdMonths(t, c.a, c.b, 0, c.e)
		holdUntil(t, c.a, c.b, api.Period{}, c.e)
	}
}
