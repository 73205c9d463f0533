package civil_test

// Each test names the promise that it holds (shared/doc/06-civil.md). What the
// numbers should be is told by a walk over all days in range, one by one, and by
// math/big for years and days of any size, beside values that are written out by
// hand.

import (
	"math"
	"math/big"
	"testing"

	"analemma/api"
	"analemma/civil"
)

const (
	most  = math.MaxInt
	least = math.MinInt
)

// years are those about leap years of all kinds, the range's edges, and int's.
func years() []int {
	l := []int{least, least + 1, least + 2, least + 3, least + 4, most - 3, most - 2, most - 1, most}
	for _, middle := range []int{
		0, 4, 100, 200, 400, 1582, 1900, 1970, 2000, 2024, 2100, 2400, 9600, api.MaxYear, 10100, 10400,
		-4, -100, -400, -9600, api.MinYear, -10100, -10400, 1 << 31, -1 << 31, 1 << 32, -1 << 32, 1 << 62, -1 << 62,
		9223372036854775600, 9223372036854775700, -9223372036854775600, -9223372036854775700, // of 400, of 100 alone
	} {
		for by := -2; by <= 2; by++ {
			l = append(l, middle+by)
		}
	}
	return l
}

// numbers are such as may be a month or a day, and such as may not.
func numbers() []int {
	l := []int{least, least + 1, -1 << 32, -366, -31, -12, 1 << 32, 1<<32 + 1, 367, 366, 365, most - 1, most}
	for n := -2; n <= 34; n++ {
		l = append(l, n)
	}
	return l
}

// dates are all of years with all of numbers, as months and as days.
func dates() []api.Date {
	var l []api.Date
	for _, y := range years() {
		for _, m := range numbers() {
			for _, d := range numbers() {
				l = append(l, api.Date{Y: y, M: m, D: d})
			}
		}
	}
	return l
}

// multiple tells whether n is one of by.
func multiple(n, by int) bool {
	return new(big.Int).Mod(big.NewInt(int64(n)), big.NewInt(int64(by))).Sign() == 0
}

func dueLeap(y int) bool {
	switch {
	case multiple(y, 400):
		return true
	case multiple(y, 100):
		return false
	}
	return multiple(y, 4)
}

func dueMonthDays(y, m int) int {
	switch m {
	case 4, 6, 9, 11:
		return 30
	case 1, 3, 5, 7, 8, 10, 12:
		return 31
	case 2:
		if dueLeap(y) {
			return 29
		}
		return 28
	}
	return 0
}

func dueYearDays(y int) int {
	if dueLeap(y) {
		return 366
	}
	return 365
}

func dueCheck(d api.Date) api.Errno {
	switch {
	case d.M < 1, d.M > 12, d.D < 1, d.D > dueMonthDays(d.Y, d.M):
		return api.ErrNoSuchDay
	case d.Y < -9999, d.Y > 9999:
		return api.ErrRange
	}
	return api.OK
}

// next is the day behind a date that may be.
func next(d api.Date) api.Date {
	switch {
	case d.D < dueMonthDays(d.Y, d.M):
		return api.Date{Y: d.Y, M: d.M, D: d.D + 1}
	case d.M < 12:
		return api.Date{Y: d.Y, M: d.M + 1, D: 1}
	}
	return api.Date{Y: d.Y + 1, M: 1, D: 1}
}

// 6.1: Leap, of any year

func TestLeap(t *testing.T) {
	for _, c := range []struct {
		y    int
		want bool
	}{
		{2023, false}, {2024, true}, {2025, false}, {2026, false}, {1900, false}, {2000, true}, {2100, false},
		{2400, true}, {1582, false}, {1500, false}, {1600, true}, {0, true}, {1, false}, {4, true}, {100, false},
		{-1, false}, {-2, false}, {-3, false}, {-4, true}, {-100, false}, {-200, false}, {-300, false}, {-400, true},
		{-9996, true}, {-9999, false}, {9996, true}, {9999, false},
		{10000, true}, {10100, false}, {-10000, true}, {-10100, false},
		{most, false}, {least, true}, {9223372036854775600, true}, {9223372036854775800, false},
		{-9223372036854775600, true}, {-9223372036854775800, false}, {9223372036854775804, true},
	} {
		if got := civil.Leap(c.y); got != c.want {
			t.Errorf("Leap(%d) = %v", c.y, got)
		}
	}
	l := years()
	for y := -10500; y <= 10500; y++ {
		l = append(l, y)
	}
	for _, y := range l {
		if got := civil.Leap(y); got != dueLeap(y) {
			t.Errorf("Leap(%d) = %v", y, got)
		}
	}
}

// 6.1: MonthDays, of any year; 0, unless m is 1 to 12

func TestMonthDays(t *testing.T) {
	for m, want := range [14]int{0, 31, 28, 31, 30, 31, 30, 31, 31, 30, 31, 30, 31, 0} {
		for _, y := range []int{2023, 1900, -1, -100, 10001, most} {
			if got := civil.MonthDays(y, m); got != want {
				t.Errorf("MonthDays(%d, %d) = %d, want %d", y, m, got, want)
			}
		}
		if m == 2 {
			want++
		}
		for _, y := range []int{2024, 2000, 0, -4, -400, 10000, least} {
			if got := civil.MonthDays(y, m); got != want {
				t.Errorf("MonthDays(%d, %d) = %d, want %d", y, m, got, want)
			}
		}
	}
	for _, y := range years() {
		for _, m := range numbers() {
			if got, want := civil.MonthDays(y, m), dueMonthDays(y, m); got != want {
				t.Errorf("MonthDays(%d, %d) = %d, want %d", y, m, got, want)
			}
		}
	}
}

// 6.1: Check: ErrNoSuchDay, ahead of ErrRange; Days and Ordinal have its error, and 0 beside it

func TestCheck(t *testing.T) {
	for _, c := range []struct {
		d api.Date
		e api.Errno
	}{
		{api.Date{Y: 2024, M: 2, D: 29}, api.OK},
		{api.Date{Y: 2023, M: 2, D: 28}, api.OK},
		{api.Date{Y: 2023, M: 2, D: 29}, api.ErrNoSuchDay},
		{api.Date{Y: 2024, M: 2, D: 30}, api.ErrNoSuchDay},
		{api.Date{Y: 1900, M: 2, D: 29}, api.ErrNoSuchDay},
		{api.Date{Y: 2000, M: 2, D: 29}, api.OK},
		{api.Date{M: 2, D: 29}, api.OK},
		{api.Date{Y: -100, M: 2, D: 29}, api.ErrNoSuchDay},
		{api.Date{Y: 1582, M: 10, D: 10}, api.OK}, // all years are Gregorian ones
		{api.Date{}, api.ErrNoSuchDay},
		{api.Date{Y: 2024, M: 4, D: 31}, api.ErrNoSuchDay},
		{api.Date{Y: 2024, M: 12, D: 31}, api.OK},
		{api.Date{Y: 2024, M: 12, D: 32}, api.ErrNoSuchDay},
		{api.Date{Y: 2024, M: 13, D: 1}, api.ErrNoSuchDay},
		{api.Date{Y: 2024, M: 0, D: 1}, api.ErrNoSuchDay},
		{api.Date{Y: 2024, M: -1, D: 1}, api.ErrNoSuchDay},
		{api.Date{Y: 2024, M: 1, D: 0}, api.ErrNoSuchDay},
		{api.Date{Y: 2024, M: 1, D: -1}, api.ErrNoSuchDay},
		{api.Date{Y: 2024, M: most, D: 1}, api.ErrNoSuchDay},
		{api.Date{Y: 2024, M: least, D: 1}, api.ErrNoSuchDay},
		{api.Date{Y: 2024, M: 1, D: most}, api.ErrNoSuchDay},
		{api.Date{Y: 2024, M: 1, D: least}, api.ErrNoSuchDay},
		{api.Date{Y: 2024, M: 1<<32 + 1, D: 1}, api.ErrNoSuchDay},
		{api.Date{Y: 2024, M: 1, D: 1<<32 + 1}, api.ErrNoSuchDay},
		{api.Date{Y: -9999, M: 1, D: 1}, api.OK},
		{api.Date{Y: -10000, M: 12, D: 31}, api.ErrRange},
		{api.Date{Y: -10000, M: 12, D: 32}, api.ErrNoSuchDay},
		{api.Date{Y: 9999, M: 12, D: 31}, api.OK},
		{api.Date{Y: 10000, M: 1, D: 1}, api.ErrRange},
		{api.Date{Y: 10000, M: 13, D: 1}, api.ErrNoSuchDay},
		{api.Date{Y: 10000, M: 2, D: 29}, api.ErrRange},
		{api.Date{Y: 10001, M: 2, D: 29}, api.ErrNoSuchDay},
		{api.Date{Y: most, M: 1, D: 1}, api.ErrRange},
		{api.Date{Y: most, M: 2, D: 29}, api.ErrNoSuchDay},
		{api.Date{Y: least, M: 2, D: 29}, api.ErrRange},
		{api.Date{Y: least, M: 2, D: 30}, api.ErrNoSuchDay},
		{api.Date{Y: least, M: least, D: least}, api.ErrNoSuchDay},
		{api.Date{Y: most, M: most, D: most}, api.ErrNoSuchDay},
		{api.Date{Y: 1<<32 + 2024, M: 1, D: 1}, api.ErrRange},
	} {
		if e := civil.Check(c.d); e != c.e {
			t.Errorf("Check(%v) = %d, want %d", c.d, e, c.e)
		}
		holdError(t, c.d, c.e)
	}
	for _, d := range dates() {
		if e := civil.Check(d); e != dueCheck(d) {
			t.Errorf("Check(%v) = %d, want %d", d, e, dueCheck(d))
		}
		holdError(t, d, dueCheck(d))
	}
}

// holdError holds that Days and Ordinal of d answer e, and 0 beside an error.
func holdError(t *testing.T, d api.Date, e api.Errno) {
	t.Helper()
	if n, f := civil.Days(d); f != e || e != api.OK && n != 0 {
		t.Errorf("Days(%v) = %d, %d, want %d", d, n, f, e)
	}
	if n, f := civil.Ordinal(d); f != e || e != api.OK && n != 0 {
		t.Errorf("Ordinal(%v) = %d, %d, want %d", d, n, f, e)
	}
}

// 6.1: Days, DateOf, Weekday, Ordinal, OfOrdinal: the chapter's examples, the edges, and others written out by hand

func TestDays(t *testing.T) {
	for _, c := range []struct {
		d                      api.Date
		days, weekday, ordinal int
	}{
		{api.Date{Y: 1970, M: 1, D: 1}, 0, 4, 1},
		{api.Date{Y: 1970, M: 1, D: 2}, 1, 5, 2},
		{api.Date{Y: 1969, M: 12, D: 31}, -1, 3, 365},
		{api.Date{Y: 1970, M: 12, D: 31}, 364, 4, 365},
		{api.Date{Y: 1972, M: 2, D: 29}, 789, 2, 60},
		{api.Date{Y: 2000, M: 2, D: 29}, 11016, 2, 60},
		{api.Date{Y: 2000, M: 3, D: 1}, 11017, 3, 61},
		{api.Date{Y: 2000, M: 12, D: 31}, 11322, 7, 366},
		{api.Date{Y: 2001, M: 1, D: 1}, 11323, 1, 1},
		{api.Date{Y: 1900, M: 3, D: 1}, -25508, 4, 60},
		{api.Date{Y: 2024, M: 1, D: 31}, 19753, 3, 31},
		{api.Date{Y: 2024, M: 2, D: 1}, 19754, 4, 32},
		{api.Date{Y: 2024, M: 12, D: 31}, 20088, 2, 366},
		{api.Date{Y: 2023, M: 12, D: 31}, 19722, 7, 365},
		{api.Date{Y: 1600, M: 12, D: 31}, -134775, 7, 366},
		{api.Date{Y: 1, M: 1, D: 1}, -719162, 1, 1},
		{api.Date{Y: 0, M: 12, D: 31}, -719163, 7, 366},
		{api.Date{Y: 0, M: 2, D: 29}, -719469, 2, 60},
		{api.Date{Y: 0, M: 1, D: 1}, -719528, 6, 1},
		{api.Date{Y: -1, M: 12, D: 31}, -719529, 5, 365},
		{api.Date{Y: -400, M: 12, D: 31}, -865260, 7, 366},
		{api.Date{Y: -9999, M: 1, D: 1}, api.MinDay, 1, 1},
		{api.Date{Y: -9999, M: 12, D: 31}, api.MinDay + 364, 1, 365},
		{api.Date{Y: 9999, M: 12, D: 31}, api.MaxDay, 5, 365},
		{api.Date{Y: 9999, M: 1, D: 1}, api.MaxDay - 364, 5, 1},
	} {
		if n, e := civil.Days(c.d); n != c.days || e != api.OK {
			t.Errorf("Days(%v) = %d, %d, want %d", c.d, n, e, c.days)
		}
		if d, e := civil.DateOf(c.days); d != c.d || e != api.OK {
			t.Errorf("DateOf(%d) = %v, %d, want %v", c.days, d, e, c.d)
		}
		if n := civil.Weekday(c.days); n != c.weekday {
			t.Errorf("Weekday(%d) = %d, want %d", c.days, n, c.weekday)
		}
		if n, e := civil.Ordinal(c.d); n != c.ordinal || e != api.OK {
			t.Errorf("Ordinal(%v) = %d, %d, want %d", c.d, n, e, c.ordinal)
		}
		if d, e := civil.OfOrdinal(c.d.Y, c.ordinal); d != c.d || e != api.OK {
			t.Errorf("OfOrdinal(%d, %d) = %v, %d, want %v", c.d.Y, c.ordinal, d, e, c.d)
		}
	}
}

// 6.1: DateOf: ErrRange, unless days is MinDay to MaxDay

func TestDateOfOutOfRange(t *testing.T) {
	for _, days := range []int{
		api.MinDay - 1, api.MinDay - 2, api.MinDay - 146097, api.MaxDay + 1, api.MaxDay + 2, api.MaxDay + 146097,
		1 << 32, 1<<32 + 11017, -1 << 32, 1 << 62, -1 << 62, most, most - 1, least, least + 1,
	} {
		if d, e := civil.DateOf(days); d != (api.Date{}) || e != api.ErrRange {
			t.Errorf("DateOf(%d) = %v, %d, want ErrRange", days, d, e)
		}
	}
}

// 6.1: Weekday, of any day's number

func TestWeekday(t *testing.T) {
	for n, want := range []int{4, 5, 6, 7, 1, 2, 3, 4} {
		if got := civil.Weekday(n); got != want {
			t.Errorf("Weekday(%d) = %d, want %d", n, got, want)
		}
	}
	for n, want := range []int{4, 3, 2, 1, 7, 6, 5, 4} {
		if got := civil.Weekday(-n); got != want {
			t.Errorf("Weekday(%d) = %d, want %d", -n, got, want)
		}
	}
	if got := civil.Weekday(most); got != 4 { // of 7 is 2^63 - 1
		t.Errorf("Weekday(%d) = %d, want 4", most, got)
	}
	if got := civil.Weekday(least); got != 3 {
		t.Errorf("Weekday(%d) = %d, want 3", least, got)
	}
	for _, middle := range []int{0, api.MinDay, api.MaxDay, 1 << 31, -1 << 31, 1 << 32, -1 << 32, 1 << 62, -1 << 62, least + 10, most - 10} {
		for by := -10; by <= 10; by++ {
			n := middle + by
			sum := new(big.Int).Add(big.NewInt(int64(n)), big.NewInt(3))
			want := 1 + int(new(big.Int).Mod(sum, big.NewInt(7)).Int64())
			if got := civil.Weekday(n); got != want {
				t.Errorf("Weekday(%d) = %d, want %d", n, got, want)
			}
		}
	}
}

// 6.1: OfOrdinal: ErrNoSuchDay, ahead of ErrRange

func TestOfOrdinal(t *testing.T) {
	for _, c := range []struct {
		y, n int
		want api.Date
		e    api.Errno
	}{
		{2024, 366, api.Date{Y: 2024, M: 12, D: 31}, api.OK},
		{2024, 60, api.Date{Y: 2024, M: 2, D: 29}, api.OK},
		{2023, 60, api.Date{Y: 2023, M: 3, D: 1}, api.OK},
		{2023, 365, api.Date{Y: 2023, M: 12, D: 31}, api.OK},
		{2023, 366, api.Date{}, api.ErrNoSuchDay},
		{2024, 367, api.Date{}, api.ErrNoSuchDay},
		{2024, 1, api.Date{Y: 2024, M: 1, D: 1}, api.OK},
		{2024, 31, api.Date{Y: 2024, M: 1, D: 31}, api.OK},
		{2024, 32, api.Date{Y: 2024, M: 2, D: 1}, api.OK},
		{2024, 0, api.Date{}, api.ErrNoSuchDay},
		{2024, -1, api.Date{}, api.ErrNoSuchDay},
		{2024, most, api.Date{}, api.ErrNoSuchDay},
		{2024, least, api.Date{}, api.ErrNoSuchDay},
		{2024, 1<<32 + 1, api.Date{}, api.ErrNoSuchDay},
		{9999, 365, api.Date{Y: 9999, M: 12, D: 31}, api.OK},
		{9999, 366, api.Date{}, api.ErrNoSuchDay},
		{10000, 1, api.Date{}, api.ErrRange},
		{10000, 366, api.Date{}, api.ErrRange},
		{10000, 367, api.Date{}, api.ErrNoSuchDay},
		{10001, 366, api.Date{}, api.ErrNoSuchDay},
		{10000, 0, api.Date{}, api.ErrNoSuchDay},
		{-9999, 1, api.Date{Y: -9999, M: 1, D: 1}, api.OK},
		{-10000, 366, api.Date{}, api.ErrRange},
		{-10000, 367, api.Date{}, api.ErrNoSuchDay},
		{most, 365, api.Date{}, api.ErrRange},
		{most, 366, api.Date{}, api.ErrNoSuchDay},
		{least, 366, api.Date{}, api.ErrRange},
		{least, 367, api.Date{}, api.ErrNoSuchDay},
		{least, least, api.Date{}, api.ErrNoSuchDay},
		{most, most, api.Date{}, api.ErrNoSuchDay},
	} {
		if d, e := civil.OfOrdinal(c.y, c.n); d != c.want || e != c.e {
			t.Errorf("OfOrdinal(%d, %d) = %v, %d, want %v, %d", c.y, c.n, d, e, c.want, c.e)
		}
	}
	for _, y := range years() {
		for _, n := range numbers() {
			holdOfOrdinal(t, y, n)
		}
	}
}

// holdOfOrdinal holds the error of OfOrdinal, and that Ordinal tells n again where there is none.
func holdOfOrdinal(t *testing.T, y, n int) {
	t.Helper()
	want := api.OK
	switch {
	case n < 1, n > dueYearDays(y):
		want = api.ErrNoSuchDay
	case y < -9999, y > 9999:
		want = api.ErrRange
	}
	d, e := civil.OfOrdinal(y, n)
	if e != want || e != api.OK && d != (api.Date{}) {
		t.Errorf("OfOrdinal(%d, %d) = %v, %d, want %d", y, n, d, e, want)
	}
	if back, f := civil.Ordinal(d); e == api.OK && (d.Y != y || back != n || f != api.OK) {
		t.Errorf("Ordinal(OfOrdinal(%d, %d)) = %d, %d, of %v", y, n, back, f, d)
	}
}

// 6.1: Cmp, by Y, M, D, of any numbers

func TestCmp(t *testing.T) {
	rising := []api.Date{
		{Y: least, M: least, D: least}, {Y: least, M: least, D: most}, {Y: least, M: most, D: least}, {Y: least, M: most, D: most},
		{Y: -10000, M: 12, D: 31}, {Y: -9999, M: 1, D: 1}, {Y: -1, M: 13}, {},
		{Y: 2023, M: 12, D: 31}, {Y: 2024, M: -1, D: 99}, {Y: 2024, D: 32}, {Y: 2024, M: 1, D: least}, {Y: 2024, M: 1, D: -1},
		{Y: 2024, M: 1}, {Y: 2024, M: 1, D: 1}, {Y: 2024, M: 1, D: 31}, {Y: 2024, M: 1, D: 99}, {Y: 2024, M: 1, D: most},
		{Y: 2024, M: 2, D: 1}, {Y: 2024, M: 2, D: 29}, {Y: 2024, M: 3}, {Y: 2024, M: 99, D: 1}, {Y: 2025, M: 1, D: 1},
		{Y: 9999, M: 12, D: 31}, {Y: 10000, M: 1, D: 1}, {Y: 1 << 32},
		{Y: most, M: least, D: least}, {Y: most, M: least, D: most}, {Y: most, M: most, D: least}, {Y: most, M: most, D: most},
	}
	for n, a := range rising {
		for m, b := range rising {
			want := 0
			switch {
			case n < m:
				want = -1
			case n > m:
				want = 1
			}
			if got := civil.Cmp(a, b); got != want {
				t.Errorf("Cmp(%v, %v) = %d, want %d", a, b, got, want)
			}
		}
	}
}

// 6.1 and 6.2: all days in range, one by one: the numbers rise with the dates, and there and back is the same

func TestAllDays(t *testing.T) {
	d := api.Date{Y: -9999, M: 1, D: 1}
	weekday, ordinal := 1, 1
	for days := api.MinDay; days <= api.MaxDay; days++ {
		if n, e := civil.Days(d); n != days || e != api.OK {
			t.Fatalf("Days(%v) = %d, %d, want %d", d, n, e, days)
		}
		if got, e := civil.DateOf(days); got != d || e != api.OK {
			t.Fatalf("DateOf(%d) = %v, %d, want %v", days, got, e, d)
		}
		if n := civil.Weekday(days); n != weekday {
			t.Fatalf("Weekday(%d) = %d, want %d", days, n, weekday)
		}
		if n, e := civil.Ordinal(d); n != ordinal || e != api.OK {
			t.Fatalf("Ordinal(%v) = %d, %d, want %d", d, n, e, ordinal)
		}
		if got, e := civil.OfOrdinal(d.Y, ordinal); got != d || e != api.OK {
			t.Fatalf("OfOrdinal(%d, %d) = %v, %d, want %v", d.Y, ordinal, got, e, d)
		}
		later := next(d)
		if civil.Cmp(d, later) != -1 || civil.Cmp(later, d) != 1 || civil.Cmp(d, d) != 0 {
			t.Fatalf("Cmp of %v and %v", d, later)
		}
		weekday = weekday%7 + 1
		ordinal++
		if later.Y != d.Y {
			ordinal = 1
		}
		d = later
	}
	if d != (api.Date{Y: 10000, M: 1, D: 1}) {
		t.Errorf("the walk ends at %v", d)
	}
}

// No call of the package lets another one's answer change: the months' days stay as they are.

func TestAgain(t *testing.T) {
	for range 3 {
		n, e := civil.Days(api.Date{Y: 2024, M: 12, D: 31})
		o, f := civil.OfOrdinal(2023, 365)
		if n != 20088 || e != api.OK || o != (api.Date{Y: 2023, M: 12, D: 31}) || f != api.OK || civil.MonthDays(2023, 2) != 28 {
			t.Errorf("%d, %d, %v, %d, %d", n, e, o, f, civil.MonthDays(2023, 2))
		}
	}
}
