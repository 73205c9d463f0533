package weeks_test

// Each test names the promise that it holds (shared/doc/07-weeks.md). What the
// numbers should be is told by a walk over all days, by the rule of the years'
// last weekdays in math/big, and by the library's time (of which no clock is
// asked), beside values that are written out by hand.

import (
	"math"
	"math/big"
	"testing"
	"time"

	"analemma/api"
	"analemma/civil"
	"analemma/weeks"
)

const (
	most  = math.MaxInt
	least = math.MinInt
)

// years are those about the edges of the range, of an int, of centuries and of 400 years.
func years() []int {
	var l []int
	for _, middle := range []int{0, 1582, 1900, 2000, 2020, 2100, -400, api.MinYear, api.MaxYear, 1 << 31, -1 << 31, 1 << 32, -1 << 32, 1 << 62, -1 << 62} {
		for by := -7; by <= 7; by++ {
			l = append(l, middle+by)
		}
	}
	for by := range 450 {
		l = append(l, least+by, most-by)
	}
	return l
}

// numbers are such as may be a week or a day, and such as may not.
func numbers() []int {
	return []int{
		least, least + 1, -1 << 62, -1 << 32, 1 - 1<<32, -53, -1, 0, 1, 2, 3, 4, 6, 7, 8, 9, 51, 52, 53, 54, 55, 366,
		256 + 1, 1 << 16, 1<<16 + 1, 1 << 32, 1<<32 + 1, 1 << 61, 1<<61 + 1, 1 << 62, 1<<62 + 1, 1<<63/7 + 2, most - 1, most,
	}
}

// lastWeekday is that of a year's last day, 0 being a Sunday.
func lastWeekday(y *big.Int) int64 {
	sum := new(big.Int).Set(y)
	for _, c := range []struct{ by, sign int64 }{{4, 1}, {100, -1}, {400, 1}} {
		part, _ := new(big.Int).DivMod(y, big.NewInt(c.by), new(big.Int)) // down: c.by is above 0
		sum.Add(sum, part.Mul(part, big.NewInt(c.sign)))
	}
	return sum.Mod(sum, big.NewInt(7)).Int64()
}

// dueWeeks is 53 for a year that begins or ends on a Thursday.
func dueWeeks(y int) int {
	year := big.NewInt(int64(y))
	ahead := new(big.Int).Sub(year, big.NewInt(1))
	if lastWeekday(year) == 4 || lastWeekday(ahead) == 3 {
		return 53
	}
	return 52
}

// 7.1: Weeks, of any year

func TestWeeks(t *testing.T) {
	for _, c := range []struct{ y, want int }{
		{2015, 53}, {2016, 52}, {2017, 52}, {2018, 52}, {2019, 52}, {2020, 53}, {2021, 52}, {2022, 52}, {2023, 52},
		{2024, 52}, {2025, 52}, {2026, 53}, {2027, 52}, {1998, 53}, {2004, 53}, {2009, 53}, {1976, 53}, {1992, 53},
		{1970, 53}, {1969, 52}, {2000, 52}, {1900, 52}, {2100, 52}, {2420, 53}, {1620, 53}, {20, 53}, {-380, 53},
		{0, 52}, {1, 52}, {-9999, 52}, {-10000, 52}, {9999, 52}, {10000, 52}, {10020, 53}, {-9980, 53},
		{20 + 400<<50, 53}, {21 + 400<<50, 52}, {20 - 400<<50, 53}, {21 - 400<<50, 52},
		{9223372036854775600, 52},  // 400 divides it
		{9223372036854775620, 53},  // as 20
		{-9223372036854775600, 52}, // 400 divides it
		{-9223372036854775580, 53}, // as 20
	} {
		if got := weeks.Weeks(c.y); got != c.want {
			t.Errorf("Weeks(%d) = %d, want %d", c.y, got, c.want)
		}
	}
	l := years()
	for y := -10500; y <= 10500; y++ {
		l = append(l, y)
	}
	for _, y := range l {
		if got, want := weeks.Weeks(y), dueWeeks(y); got != want {
			t.Errorf("Weeks(%d) = %d, want %d", y, got, want)
		}
	}
}

// 7.1: Weeks: of 400 years 71 have 53

func TestWeeksOfAllYears(t *testing.T) {
	for _, from := range []int{0, 2000, 1999, -9999, 9800, -1 << 40, least, most - 399} {
		long := 0
		for by := range 400 {
			long += weeks.Weeks(from+by) - 52
		}
		if long != 71 {
			t.Errorf("from %d on: %d years of 53 weeks, want 71", from, long)
		}
	}
}

// 7.1 and 7.2: Of and Date: the chapter's examples, the edges, and others written out by hand

func TestOfAndDate(t *testing.T) {
	for _, c := range []struct {
		d            api.Date
		y, week, day int
	}{
		{api.Date{Y: 2021, M: 1, D: 3}, 2020, 53, 7},
		{api.Date{Y: 2021, M: 1, D: 4}, 2021, 1, 1},
		{api.Date{Y: 2020, M: 12, D: 31}, 2020, 53, 4},
		{api.Date{Y: 2020, M: 12, D: 28}, 2020, 53, 1},
		{api.Date{Y: 2020, M: 12, D: 27}, 2020, 52, 7},
		{api.Date{Y: 2020, M: 1, D: 1}, 2020, 1, 3},
		{api.Date{Y: 2019, M: 12, D: 30}, 2020, 1, 1},
		{api.Date{Y: 2019, M: 12, D: 29}, 2019, 52, 7},
		{api.Date{Y: 2018, M: 12, D: 31}, 2019, 1, 1},
		{api.Date{Y: 2018, M: 1, D: 1}, 2018, 1, 1},
		{api.Date{Y: 2017, M: 1, D: 1}, 2016, 52, 7},
		{api.Date{Y: 2016, M: 1, D: 3}, 2015, 53, 7},
		{api.Date{Y: 2015, M: 12, D: 31}, 2015, 53, 4},
		{api.Date{Y: 2015, M: 1, D: 1}, 2015, 1, 4},
		{api.Date{Y: 2014, M: 12, D: 29}, 2015, 1, 1},
		{api.Date{Y: 2010, M: 1, D: 1}, 2009, 53, 5},
		{api.Date{Y: 2005, M: 1, D: 1}, 2004, 53, 6},
		{api.Date{Y: 2000, M: 1, D: 1}, 1999, 52, 6},
		{api.Date{Y: 2000, M: 3, D: 1}, 2000, 9, 3},
		{api.Date{Y: 2024, M: 2, D: 29}, 2024, 9, 4},
		{api.Date{Y: 2024, M: 12, D: 30}, 2025, 1, 1},
		{api.Date{Y: 1970, M: 1, D: 1}, 1970, 1, 4},
		{api.Date{Y: 1969, M: 12, D: 29}, 1970, 1, 1},
		{api.Date{Y: 1969, M: 12, D: 28}, 1969, 52, 7},
		{api.Date{Y: 1, M: 1, D: 1}, 1, 1, 1},
		{api.Date{Y: 0, M: 12, D: 31}, 0, 52, 7},
		{api.Date{Y: 0, M: 1, D: 1}, -1, 52, 6},
		{api.Date{Y: -400, M: 1, D: 2}, -401, 52, 7},
		{api.Date{Y: -400, M: 1, D: 3}, -400, 1, 1},
		{api.Date{Y: -9999, M: 1, D: 1}, -9999, 1, 1},
		{api.Date{Y: -9999, M: 1, D: 7}, -9999, 1, 7},
		{api.Date{Y: -9999, M: 1, D: 8}, -9999, 2, 1},
		{api.Date{Y: -9999, M: 12, D: 31}, -9998, 1, 1},
		{api.Date{Y: 9999, M: 12, D: 31}, 9999, 52, 5},
		{api.Date{Y: 9999, M: 12, D: 27}, 9999, 52, 1},
		{api.Date{Y: 9999, M: 12, D: 26}, 9999, 51, 7},
		{api.Date{Y: 9999, M: 1, D: 3}, 9998, 53, 7},
		{api.Date{Y: 9999, M: 1, D: 4}, 9999, 1, 1},
	} {
		hold(t, c.d, c.y, c.week, c.day)
	}
}

// hold holds that Of(d) tells these three, and Date of them d.
func hold(t *testing.T, d api.Date, y, week, day int) {
	t.Helper()
	gotY, gotWeek, gotDay, e := weeks.Of(d)
	if gotY != y || gotWeek != week || gotDay != day || e != api.OK {
		t.Fatalf("Of(%v) = %d, %d, %d, %d, want %d, %d, %d", d, gotY, gotWeek, gotDay, e, y, week, day)
	}
	if got, e := weeks.Date(y, week, day); got != d || e != api.OK {
		t.Fatalf("Date(%d, %d, %d) = %v, %d, want %v", y, week, day, got, e, d)
	}
}

// 7.1: Of has chapter 6's Check's error, and zeros beside it

func TestOfNoDate(t *testing.T) {
	for _, c := range []struct {
		d api.Date
		e api.Errno
	}{
		{api.Date{Y: 2023, M: 2, D: 29}, api.ErrNoSuchDay},
		{api.Date{Y: 2021, M: 1}, api.ErrNoSuchDay},
		{api.Date{Y: 2021, M: 1, D: 32}, api.ErrNoSuchDay},
		{api.Date{Y: 2021, M: 13, D: 1}, api.ErrNoSuchDay},
		{api.Date{Y: 2021, D: 1}, api.ErrNoSuchDay},
		{api.Date{Y: 2021, M: -1, D: 1}, api.ErrNoSuchDay},
		{api.Date{}, api.ErrNoSuchDay},
		{api.Date{Y: 10000, M: 1, D: 1}, api.ErrRange},
		{api.Date{Y: 10000, M: 1, D: 3}, api.ErrRange},
		{api.Date{Y: 10000, M: 13, D: 1}, api.ErrNoSuchDay},
		{api.Date{Y: -10000, M: 12, D: 31}, api.ErrRange},
		{api.Date{Y: -10000, M: 12, D: 32}, api.ErrNoSuchDay},
		{api.Date{Y: most, M: 1, D: 1}, api.ErrRange},
		{api.Date{Y: most, M: 2, D: 29}, api.ErrNoSuchDay},
		{api.Date{Y: least, M: 12, D: 31}, api.ErrRange},
		{api.Date{Y: least, M: least, D: least}, api.ErrNoSuchDay},
		{api.Date{Y: most, M: most, D: most}, api.ErrNoSuchDay},
	} {
		holdNoDate(t, c.d, c.e)
	}
	for _, y := range years() {
		for _, m := range numbers() {
			for _, n := range numbers() {
				d := api.Date{Y: y, M: m, D: n}
				holdNoDate(t, d, civil.Check(d))
			}
		}
	}
}

func holdNoDate(t *testing.T, d api.Date, want api.Errno) {
	t.Helper()
	y, week, day, e := weeks.Of(d)
	if e != want || e != api.OK && (y != 0 || week != 0 || day != 0) {
		t.Errorf("Of(%v) = %d, %d, %d, %d, want %d", d, y, week, day, e, want)
	}
}

// 7.1: Date: ErrNoSuchDay, ahead of ErrRange

func TestDateOfNoDay(t *testing.T) {
	for _, c := range []struct {
		y, week, day int
		e            api.Errno
	}{
		{2021, 52, 7, api.OK},
		{2021, 53, 1, api.ErrNoSuchDay},
		{2020, 53, 1, api.OK},
		{2020, 54, 1, api.ErrNoSuchDay},
		{2021, 1, 7, api.OK},
		{2021, 1, 8, api.ErrNoSuchDay},
		{2021, 1, 0, api.ErrNoSuchDay},
		{2021, 0, 1, api.ErrNoSuchDay},
		{2021, 0, 8, api.ErrNoSuchDay}, // though it lies behind week 1's first day
		{2021, -1, 1, api.ErrNoSuchDay},
		{2021, 1, -1, api.ErrNoSuchDay},
		{2021, most, 1, api.ErrNoSuchDay},
		{2021, least, 1, api.ErrNoSuchDay},
		{2021, 1, most, api.ErrNoSuchDay},
		{2021, 1, least, api.ErrNoSuchDay},
		{9999, 52, 5, api.OK},
		{9999, 52, 6, api.ErrRange},
		{9999, 52, 7, api.ErrRange},
		{9999, 52, 8, api.ErrNoSuchDay},
		{9999, 53, 1, api.ErrNoSuchDay},
		{10000, 1, 1, api.ErrRange},
		{10000, 52, 7, api.ErrRange},
		{10000, 53, 1, api.ErrNoSuchDay},
		{10000, 1, 0, api.ErrNoSuchDay},
		{10020, 53, 7, api.ErrRange},
		{10020, 54, 7, api.ErrNoSuchDay},
		{-9999, 1, 1, api.OK},
		{-9999, 1, 0, api.ErrNoSuchDay},
		{-9999, 0, 7, api.ErrNoSuchDay},
		{-10000, 52, 7, api.ErrRange},
		{-10000, 53, 1, api.ErrNoSuchDay},
		{-10000, 1, 8, api.ErrNoSuchDay},
		{9223372036854775620, 53, 7, api.ErrRange},
		{9223372036854775600, 53, 7, api.ErrNoSuchDay},
		{most, 52, 1, api.ErrRange},
		{most, 54, 1, api.ErrNoSuchDay},
		{least, 52, 7, api.ErrRange},
		{least, 52, 8, api.ErrNoSuchDay},
		{least, least, least, api.ErrNoSuchDay},
		{most, most, most, api.ErrNoSuchDay},
		{1<<32 + 2021, 1, 1, api.ErrRange},
		{2021, 1<<32 + 1, 1, api.ErrNoSuchDay},
		{2021, 1, 1<<32 + 1, api.ErrNoSuchDay},
	} {
		if d, e := weeks.Date(c.y, c.week, c.day); e != c.e || e != api.OK && d != (api.Date{}) {
			t.Errorf("Date(%d, %d, %d) = %v, %d, want %d", c.y, c.week, c.day, d, e, c.e)
		}
	}
	for _, y := range years() {
		for _, week := range numbers() {
			for _, day := range numbers() {
				holdDate(t, y, week, day)
			}
		}
	}
}

// holdDate holds the error of Date, and that Of tells the three again where there is none.
func holdDate(t *testing.T, y, week, day int) {
	t.Helper()
	want := api.OK
	switch {
	case week < 1, week > dueWeeks(y), day < 1, day > 7:
		want = api.ErrNoSuchDay
	case y < -9999, y > 9999, y == 9999 && week == 52 && day > 5:
		want = api.ErrRange
	}
	d, e := weeks.Date(y, week, day)
	if e != want || e != api.OK && d != (api.Date{}) {
		t.Fatalf("Date(%d, %d, %d) = %v, %d, want %d", y, week, day, d, e, want)
	}
	if e == api.OK {
		hold(t, d, y, week, day)
	}
}

// 7.1 and 7.2: all days in range, one by one: of each week, the year is that of its Thursday,
// and week 1 is the first one of its year

func TestAllDays(t *testing.T) {
	y, week, day := -9999, 1, 1
	for days := api.MinDay; days <= api.MaxDay; days++ {
		d, e := civil.DateOf(days)
		if e != api.OK {
			t.Fatalf("DateOf(%d): %d", days, e)
		}
		hold(t, d, y, week, day)
		if week > weeks.Weeks(y) {
			t.Fatalf("week %d of %d", week, y)
		}
		if day++; day <= 7 {
			continue
		}
		day = 1
		week++
		if middle, e := civil.DateOf(days + 4); e == api.OK && middle.Y != y {
			if weeks.Weeks(y) != week-1 {
				t.Fatalf("Weeks(%d) = %d, want %d", y, weeks.Weeks(y), week-1)
			}
			y, week = middle.Y, 1
		}
	}
	if y != 9999 || week != 52 || day != 6 {
		t.Errorf("the walk ends at %d, %d, %d", y, week, day)
	}
}

// 7.1: the days about the ends of all years, as the library's time tells their weeks

func TestYearsEnds(t *testing.T) {
	for y := api.MinYear; y <= api.MaxYear; y++ {
		for n := 1; n <= 31; n++ {
			for _, m := range []int{1, 12} {
				when := time.Date(y, time.Month(m), n, 0, 0, 0, 0, time.UTC)
				year, week := when.ISOWeek()
				hold(t, api.Date{Y: y, M: m, D: n}, year, week, (int(when.Weekday())+6)%7+1)
			}
		}
	}
}
