package yearly_test

// Each test names what it holds of promises 16.1 and 16.2 (shared/doc/16-yearly.md). What day or
// second should be answered is told by the library's time, gone over day by day, and by math/big
// for sums of any numbers, beside values that are written out by hand.

import (
	"math"
	"math/big"
	"testing"
	"time"

	"analemma/api"
	"analemma/words"
	"analemma/yearly"
)

const (
	most  = math.MaxInt
	least = math.MinInt
	first = -377705116800 // the first second of -9999
	end   = 253402300799  // the last one of 9999
)

// midnight is the library's day d of month m, counted beyond the month as well.
func midnight(y, m, d int) time.Time {
	return time.Date(y, time.Month(m), d, 0, 0, 0, 0, time.UTC)
}

func number(t time.Time) int {
	return int(t.Unix()) / 86400 // of a midnight there is no rest
}

func isDay(t time.Time, w int) bool {
	return (int(t.Weekday())+6)%7+1 == w
}

func length(y, m int) int {
	return midnight(y, m+1, 0).Day()
}

// dueDay goes over days one by one, of a day that may be in a year that may be.
func dueDay(d api.Day, y, m int) (int, api.Errno) {
	at, step := d.N, 0
	switch d.Kind {
	case 0:
		if d.N > length(y, m) {
			return 0, api.ErrNoSuchDay
		}
		return number(midnight(y, m, d.N)), api.OK
	case 1:
		at, step = length(y, m), -1
	case 2:
		step = 1
	case 3:
		step = -1
	}
	for !isDay(midnight(y, m, at), d.W) {
		at += step
	}
	return number(midnight(y, m, at)), api.OK
}

// allDays are all that chapter 14 can tell.
func allDays() []api.Day {
	var out []api.Day
	for w := 1; w <= 7; w++ {
		out = append(out, api.Day{Kind: 1, W: w})
	}
	for n := 1; n <= 31; n++ {
		out = append(out, api.Day{N: n})
		for w := 1; w <= 7; w++ {
			out = append(out, api.Day{Kind: 2, N: n, W: w}, api.Day{Kind: 3, N: n, W: w})
		}
	}
	return out
}

func holdDay(t *testing.T, d api.Day, y, m int) {
	t.Helper()
	due, fault := dueDay(d, y, m)
	if n, e := yearly.Day(d, y, m); n != due || e != fault {
		t.Fatalf("Day(%v, %d, %d): %d %d, want %d %d", d, y, m, n, e, due, fault)
	}
}

// 16.1: every day that may be, in every month, in years of all kinds: at both ends, behind MaxYear, about year 0.
func TestDaysOfMonths(t *testing.T) {
	years := []int{-9999, -9998, -9997, -9996, -8000, -401, -400, -100, -5, -4, -1, 0, 1, 4, 100, 400, 1581, 1582,
		1583, 1600, 1700, 1900, 1969, 1970, 1972, 2000, 2023, 2024, 2026, 9600, 9996, 9998, 9999, 10000}
	for _, d := range allDays() {
		for _, y := range years {
			for m := 1; m <= 12; m++ {
				holdDay(t, d, y, m)
			}
		}
	}
}

// 16.1: every year, in each month, by a day of each kind.
func TestDaysOfYears(t *testing.T) {
	kinds := []api.Day{{N: 28}, {N: 29}, {Kind: 1, W: 7}, {Kind: 2, N: 25, W: 3}, {Kind: 3, N: 4, W: 6}}
	for y := -9999; y <= 10000; y++ {
		for m := 1; m <= 12; m++ {
			holdDay(t, kinds[(y+9999+m)%len(kinds)], y, m)
		}
		for _, d := range kinds {
			holdDay(t, d, y, 2)
		}
	}
}

// 16.1: days by hand: the document's, and the edges that it names.
func TestDaysByHand(t *testing.T) {
	for _, x := range []struct {
		d    api.Day
		y, m int
		want time.Time
	}{
		{api.Day{Kind: 1, W: 7}, 2024, 3, midnight(2024, 3, 31)},
		{api.Day{Kind: 3, N: 3, W: 7}, 2024, 3, midnight(2024, 3, 3)},
		{api.Day{N: 29}, 2024, 2, midnight(2024, 2, 29)},
		{api.Day{N: 31}, 2024, 12, midnight(2024, 12, 31)},
		{api.Day{Kind: 1, W: 4}, 2024, 2, midnight(2024, 2, 29)},           // the last day is one
		{api.Day{Kind: 1, W: 5}, 2024, 2, midnight(2024, 2, 23)},           // six days ahead of it
		{api.Day{Kind: 2, N: 8, W: 5}, 2024, 3, midnight(2024, 3, 8)},      // day N itself
		{api.Day{Kind: 2, N: 8, W: 4}, 2024, 3, midnight(2024, 3, 14)},     // six days behind it
		{api.Day{Kind: 2, N: 29, W: 7}, 2024, 12, midnight(2024, 12, 29)},  // within the month
		{api.Day{Kind: 2, N: 31, W: 1}, 2024, 12, midnight(2025, 1, 6)},    // in the next year
		{api.Day{Kind: 2, N: 29, W: 7}, 2023, 2, midnight(2023, 3, 5)},     // from a day past the month's end on
		{api.Day{Kind: 2, N: 31, W: 5}, 2023, 2, midnight(2023, 3, 3)},     // that day itself
		{api.Day{Kind: 3, N: 31, W: 5}, 2023, 2, midnight(2023, 3, 3)},     // likewise
		{api.Day{Kind: 3, N: 31, W: 2}, 2023, 2, midnight(2023, 2, 28)},    // back within the month
		{api.Day{Kind: 3, N: 1, W: 1}, 2024, 1, midnight(2024, 1, 1)},      // day N itself
		{api.Day{Kind: 3, N: 1, W: 7}, 2024, 1, midnight(2023, 12, 31)},    // the day ahead of it
		{api.Day{Kind: 3, N: 1, W: 2}, 2024, 1, midnight(2023, 12, 26)},    // six days ahead of it
		{api.Day{Kind: 3, N: 1, W: 7}, -9999, 1, midnight(-10000, 12, 31)}, // out of all dates
		{api.Day{Kind: 2, N: 31, W: 6}, 9999, 12, midnight(10000, 1, 1)},
		{api.Day{N: 29}, 10000, 2, midnight(10000, 2, 29)},
		{api.Day{Kind: 2, N: 31, W: 7}, 10000, 12, midnight(10000, 12, 31)},
		{api.Day{Kind: 2, N: 31, W: 6}, 10000, 12, midnight(10001, 1, 6)},
	} {
		if n, e := yearly.Day(x.d, x.y, x.m); n != number(x.want) || e != api.OK {
			t.Errorf("Day(%v, %d, %d): %d %d, want %d", x.d, x.y, x.m, n, e, number(x.want))
		}
	}
	if n, e := yearly.Day(api.Day{Kind: 1, W: 7}, 2024, 3); n != 19813 || e != api.OK {
		t.Errorf("last-sun of March 2024: %d %d", n, e)
	}
}

// 16.1: days that chapter 14 reads are those that may be.
func TestDaysOfWords(t *testing.T) {
	for s, want := range map[string]int{"last-sun": 19813, "sun<=3": 19785, "sun>=8": 19792, "31": 19813, "1": 19783} {
		d, fault := words.Day(s)
		if n, e := yearly.Day(d, 2024, 3); n != want || e != api.OK || fault != api.OK {
			t.Errorf("%s: %d %d, want %d", s, n, e, want)
		}
	}
}

// may tells whether chapter 14 can tell the day.
func may(d api.Day) bool {
	n, w := d.N >= 1 && d.N <= 31, d.W >= 1 && d.W <= 7
	switch d.Kind {
	case 0:
		return n && d.W == 0
	case 1:
		return d.N == 0 && w
	case 2, 3:
		return n && w
	}
	return false
}

func wrong(d api.Day, y, m int) api.Errno {
	switch {
	case !may(d) || m < 1 || m > 12:
		return api.ErrBadArg
	case d.Kind == 0 && (d.N > 31 || m == 2 && d.N > 28 || d.N > 30 && (m == 4 || m == 6 || m == 9 || m == 11)) && !(leap(y) && m == 2 && d.N == 29):
		return api.ErrNoSuchDay
	case y < -9999 || y > 10000:
		return api.ErrRange
	}
	return api.OK
}

func leap(y int) bool {
	return y%400 == 0 || y%4 == 0 && y%100 != 0
}

// 16.1, R2: the error of any numbers, the least one; beside it 0.
func TestErrorsOfDays(t *testing.T) {
	kinds := []int{0, 1, 2, 3, 4, -1, 256, 1 << 32, 1<<32 + 1, most, least}
	ns := []int{0, 1, 2, 28, 29, 30, 31, 32, -1, 257, 1<<32 + 1, most, least}
	ws := []int{0, 1, 7, 8, -1, 257, 1<<32 + 7, most, least}
	ms := []int{1, 2, 4, 6, 9, 11, 12, 0, 13, -1, 257, 1<<32 + 1, most, least}
	ys := []int{-9999, 2023, 2024, 2100, 10000, -10000, 10001, 10004, 12000, -12000, 1<<32 + 2000, most, least}
	for _, kind := range kinds {
		for _, n := range ns {
			for _, w := range ws {
				for _, m := range ms {
					for _, y := range ys {
						d := api.Day{Kind: kind, N: n, W: w}
						day, e := yearly.Day(d, y, m)
						if fault := wrong(d, y, m); e != fault || e != api.OK && day != 0 {
							t.Fatalf("Day(%v, %d, %d): %d %d, want %d", d, y, m, day, e, fault)
						}
						if e == api.OK {
							holdDay(t, d, y, m)
						}
					}
				}
			}
		}
	}
}

// 16.1: errors by hand: of each the ones behind it apply as well.
func TestErrorsByHand(t *testing.T) {
	for _, x := range []struct {
		d    api.Day
		y, m int
		want api.Errno
	}{
		{api.Day{N: 29}, 2023, 2, api.ErrNoSuchDay},
		{api.Day{N: 29}, 1900, 2, api.ErrNoSuchDay},
		{api.Day{N: 31}, 2024, 4, api.ErrNoSuchDay},
		{api.Day{N: 30}, 10004, 2, api.ErrNoSuchDay},
		{api.Day{N: 29}, 10001, 2, api.ErrNoSuchDay},
		{api.Day{N: 29}, 10004, 2, api.ErrRange},
		{api.Day{N: 31}, 10001, 1, api.ErrRange},
		{api.Day{N: 1}, -10000, 1, api.ErrRange},
		{api.Day{N: 31}, 10000, 1, api.OK},
		{api.Day{N: 1}, -9999, 1, api.OK},
		{api.Day{N: 31, W: 1}, 10001, 2, api.ErrBadArg},
		{api.Day{N: 32}, 10001, 1, api.ErrBadArg},
		{api.Day{N: 31}, 10001, 13, api.ErrBadArg},
		{api.Day{Kind: 1, N: 1, W: 1}, 2024, 1, api.ErrBadArg},
		{api.Day{Kind: 1}, 2024, 1, api.ErrBadArg},
		{api.Day{Kind: 2, W: 1}, 2024, 1, api.ErrBadArg},
		{api.Day{Kind: 3, N: 1}, 2024, 1, api.ErrBadArg},
		{api.Day{Kind: 4, N: 1, W: 1}, 2024, 1, api.ErrBadArg},
		{api.Day{Kind: 4}, 2024, 1, api.ErrBadArg},
		{api.Day{}, 2024, 1, api.ErrBadArg},
	} {
		if n, e := yearly.Day(x.d, x.y, x.m); e != x.want || e != api.OK && n != 0 {
			t.Errorf("Day(%v, %d, %d): %d %d, want %d", x.d, x.y, x.m, n, e, x.want)
		}
	}
}

func holdAt(t *testing.T, l api.Line, y, want int, is bool) {
	t.Helper()
	if n, ok := yearly.At(l, y); n != want || ok != is {
		t.Errorf("At(%v, %d): %d %v, want %d %v", l, y, n, ok, want, is)
	}
}

// 16.2: a line of one moment has it in its own year alone.
func TestMoments(t *testing.T) {
	for _, x := range []struct{ sec, y int }{
		{0, 1970}, {-1, 1969}, {-31536000, 1969}, {-31536001, 1968}, {1704067200, 2024}, {1704067199, 2023}, {1735689599, 2024},
		{1735689600, 2025}, {-62167219200, 0}, {-62167219201, -1}, {first, -9999}, {end, 9999}, {end - 31536000, 9998}, {first + 31536000, -9998},
	} {
		l := api.Line{Kind: 1, Sec: x.sec, Triple: api.Triple{Abbr: "A"}}
		for y := x.y - 2; y <= x.y+2; y++ {
			if y == x.y {
				holdAt(t, l, y, x.sec, true)
			} else {
				holdAt(t, l, y, 0, false)
			}
		}
	}
}

// 16.2: both ends of every year that may be.
func TestMomentsOfYears(t *testing.T) {
	for y := -9999; y <= 9999; y++ {
		from, to := int(midnight(y, 1, 1).Unix()), int(midnight(y+1, 1, 1).Unix())-1
		for _, sec := range []int{from, to} {
			l := api.Line{Kind: 1, Sec: sec}
			holdAt(t, l, y, sec, true)
			holdAt(t, l, y+1, 0, false)
			holdAt(t, l, y-1, 0, false)
		}
	}
}

// 16.2: a moment out of range is in no year, whatever number that is.
func TestMomentsOutOfRange(t *testing.T) {
	for _, sec := range []int{first - 1, end + 1, first - 31536000, most, least, 1 << 40} {
		for _, y := range []int{-10000, -9999, 9999, 10000, 0, 1970, most, least} {
			holdAt(t, api.Line{Kind: 1, Sec: sec}, y, 0, false)
		}
	}
	for _, y := range []int{10000, -10000, most, least, 1<<32 + 1970} {
		holdAt(t, api.Line{Kind: 1}, y, 0, false)
	}
}

// 16.2: the moments of the document's zone, by hand.
func TestRulesByHand(t *testing.T) {
	march := api.Line{Kind: 2, From: 1996, To: 1 << 20, Month: 3, Day: api.Day{Kind: 1, W: 7}, Time: 3600, Triple: api.Triple{Offset: 7200, Dst: true, Abbr: "CEST"}}
	holdAt(t, march, 2024, 1711846800, true) // 2024-03-31 01:00
	holdAt(t, march, 1996, 828234000, true)  // 1996-03-31 01:00
	holdAt(t, march, 1995, 0, false)
	holdAt(t, march, 10000, int(time.Date(10000, 3, 26, 1, 0, 0, 0, time.UTC).Unix()), true)
	holdAt(t, march, 10001, 0, false)
	day := api.Line{Kind: 2, From: 1970, To: 1971, Month: 1, Day: api.Day{N: 1}, Time: 7, Read: 9}
	holdAt(t, day, 1970, -2, true) // in the year ahead, read as UTC
	holdAt(t, day, 1971, 31535998, true)
	holdAt(t, day, 1972, 0, false)
	holdAt(t, day, 1969, 0, false)
}

// 16.2: Time and Read, at their ends.
func TestTimesOfRules(t *testing.T) {
	for _, time := range []int{0, 1, 3600, 86399, 86400} {
		for _, read := range []int{0, 1, -1, 64800, -64800, 19800} {
			for _, y := range []int{-9999, -1, 0, 1969, 1970, 2024, 9999, 10000} {
				l := api.Line{Kind: 2, From: -9999, To: 1 << 20, Month: 1, Day: api.Day{N: 1}, Time: time, Read: read}
				holdAt(t, l, y, int(midnight(y, 1, 1).Unix())+time-read, true)
			}
		}
	}
}

// 16.2: a rule has a moment in the years From to To alone.
func TestYearsOfRules(t *testing.T) {
	ends := []int{-10001, -10000, -9999, -1, 0, 1, 2023, 9998, 9999, 10000, 10001, 1 << 20, most, least}
	for _, from := range ends {
		for _, to := range ends {
			for _, y := range ends {
				l := api.Line{Kind: 2, From: from, To: to, Month: 1, Day: api.Day{N: 1}}
				if y >= from && y <= to && y >= -9999 && y <= 10000 {
					holdAt(t, l, y, int(midnight(y, 1, 1).Unix()), true)
				} else {
					holdAt(t, l, y, 0, false)
				}
			}
		}
	}
}

// 16.2: a year in which Day is an error has no moment of the rule.
func TestRulesWithoutDay(t *testing.T) {
	l := api.Line{Kind: 2, From: 1896, To: 1 << 20, Month: 2, Day: api.Day{N: 29}}
	for y := 1890; y <= 2110; y++ {
		if y >= 1896 && leap(y) {
			holdAt(t, l, y, int(midnight(y, 2, 29).Unix()), true)
		} else {
			holdAt(t, l, y, 0, false)
		}
	}
	for _, bad := range []api.Line{
		{Month: 0, Day: api.Day{N: 1}}, {Month: 13, Day: api.Day{N: 1}}, {Month: 1, Day: api.Day{N: 32}}, {Month: 1}, {Month: 4, Day: api.Day{N: 31}},
		{Month: 1, Day: api.Day{Kind: 4, N: 1}}, {Month: 1, Day: api.Day{N: 1, W: 1}}, {Month: most, Day: api.Day{N: 1}},
	} {
		bad.Kind, bad.From, bad.To, bad.Time = 2, -9999, 1<<20, 3600
		holdAt(t, bad, 2024, 0, false)
	}
}

// 16.2: lines of other kinds have nothing, whatever else they have.
func TestOtherKinds(t *testing.T) {
	for _, kind := range []int{0, 3, -1, 257, 258, 1<<32 + 1, 1<<32 + 2, most, least} {
		l := api.Line{Kind: kind, Sec: 0, From: 1900, To: 2000, Month: 1, Day: api.Day{N: 1}, Time: 3600}
		holdAt(t, l, 1970, 0, false)
	}
}

// 16.2: each kind of line goes by its own fields alone.
func TestOwnFields(t *testing.T) {
	once := api.Line{Kind: 1, Sec: 86400, From: 2000, To: 1900, Month: 99, Day: api.Day{Kind: 9}, Time: 3600, Read: 7}
	holdAt(t, once, 1970, 86400, true)
	rule := api.Line{Kind: 2, Sec: most, From: 1970, To: 1970, Month: 1, Day: api.Day{N: 2}, Time: 5}
	holdAt(t, rule, 1970, 86405, true)
}

// R1, R6: a sum that is no int is not answered, and one that is wraps nowhere, whatever Time and Read are.
func TestSumsOfAnyNumbers(t *testing.T) {
	sums := []int{0, 1, -1, 86400, 1 << 31, 1<<32 - 1, 1 << 32, -1 << 32, 1 << 62, -1 << 62, most, most - 1, least, least + 1, least + 86400, most - 86400}
	for _, time := range sums {
		for _, read := range sums {
			for _, y := range []int{1969, 1970, 1971, -9999, 10000} {
				l := api.Line{Kind: 2, From: -9999, To: 10000, Month: 1, Day: api.Day{N: 1}, Time: time, Read: read}
				exact := big.NewInt(midnight(y, 1, 1).Unix())
				exact.Add(exact, big.NewInt(int64(time)))
				exact.Sub(exact, big.NewInt(int64(read)))
				if exact.IsInt64() {
					holdAt(t, l, y, int(exact.Int64()), true)
				} else {
					holdAt(t, l, y, 0, false)
				}
			}
		}
	}
}

// R5: the same arguments have the same answer, whatever was asked between.
func TestSameAgain(t *testing.T) {
	l := api.Line{Kind: 2, From: 2000, To: 2000, Month: 5, Day: api.Day{Kind: 2, N: 9, W: 3}, Time: 1, Read: 2}
	a, _ := yearly.At(l, 2000)
	yearly.At(l, 1999)
	yearly.Day(api.Day{N: 29}, 2023, 2)
	if b, ok := yearly.At(l, 2000); a != b || !ok {
		t.Errorf("%d, then %d %v", a, b, ok)
	}
}
