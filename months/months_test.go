package months_test

// Each test names what it holds of promise 11.1 (shared/doc/11-months.md). What
// the dates should be is told by a walk over all months in range, one by one, by
// math/big for any number of months, and by the library's time for days, beside
// values that are written out by hand.

import (
	"math"
	"math/big"
	"testing"
	"time"

	"analemma/api"
	"analemma/months"
)

const (
	most  = math.MaxInt
	least = math.MinInt
	end   = 1000000 // of a period's field
	count = 239988  // months in range
)

var policies = []int{api.Clamp, api.Reject}

func date(y, m, d int) api.Date {
	return api.Date{Y: y, M: m, D: d}
}

func of(years, months, days int) api.Period {
	return api.Period{Years: years, Months: months, Days: days}
}

// badPolicies are all that is neither Clamp nor Reject, some of which wrap to these.
func badPolicies() []int {
	return []int{2, -1, 3, -2, 1 << 8, 1<<8 + 1, 1 << 32, 1<<32 + 1, 1<<63 - 2, most, least, least + 1}
}

func longYear(y int) bool {
	return y%400 == 0 || y%4 == 0 && y%100 != 0
}

// length is a month's days, written out.
func length(y, m int) int {
	switch m {
	case 1, 3, 5, 7, 8, 10, 12:
		return 31
	case 4, 6, 9, 11:
		return 30
	case 2:
		if longYear(y) {
			return 29
		}
		return 28
	}
	return 0
}

// may is what civil.Check must say of a date.
func may(d api.Date) api.Errno {
	switch {
	case d.D < 1 || d.D > length(d.Y, d.M):
		return api.ErrNoSuchDay
	case d.Y < -9999 || d.Y > 9999:
		return api.ErrRange
	}
	return api.OK
}

// walk is the first day of every month in range, in order, counted one by one.
func walk() []api.Date {
	var l []api.Date
	for d := date(-9999, 1, 1); d.Y <= 9999; {
		l = append(l, d)
		d.M++
		if d.M == 13 {
			d.Y, d.M = d.Y+1, 1
		}
	}
	return l
}

// place is where the walk has a date's month.
func place(d api.Date) int {
	return (d.Y+9999)*12 + d.M - 1
}

// fitted is day n of a month, by a policy that may be.
func fitted(month api.Date, n, policy int) (api.Date, api.Errno) {
	if n <= length(month.Y, month.M) {
		return date(month.Y, month.M, n), api.OK
	}
	if policy == api.Reject {
		return api.Date{}, api.ErrNoSuchDay
	}
	return date(month.Y, month.M, length(month.Y, month.M)), api.OK
}

// dueAdd is what Add must answer, by the walk.
func dueAdd(all []api.Date, d api.Date, n, policy int) (api.Date, api.Errno) {
	if policy != api.Clamp && policy != api.Reject {
		return api.Date{}, api.ErrBadArg
	}
	if e := may(d); e != api.OK {
		return api.Date{}, e
	}
	at := new(big.Int).Add(big.NewInt(int64(place(d))), big.NewInt(int64(n)))
	if at.Sign() < 0 || at.Cmp(big.NewInt(int64(len(all)))) >= 0 {
		return api.Date{}, api.ErrRange
	}
	return fitted(all[at.Int64()], d.D, policy)
}

// dueDays is the date so many days behind d, by the library's time.
func dueDays(d api.Date, days int) (api.Date, api.Errno) {
	moment := time.Date(d.Y, time.Month(d.M), d.D+days, 0, 0, 0, 0, time.UTC)
	moved := date(moment.Year(), int(moment.Month()), moment.Day())
	if moved.Y < -9999 || moved.Y > 9999 {
		return api.Date{}, api.ErrRange
	}
	return moved, api.OK
}

// duePlus is what Plus must answer, in the chapter's order.
func duePlus(all []api.Date, d api.Date, p api.Period, policy int) (api.Date, api.Errno) {
	if policy != api.Clamp && policy != api.Reject {
		return api.Date{}, api.ErrBadArg
	}
	if e := may(d); e != api.OK {
		return api.Date{}, e
	}
	for _, n := range []int{p.Years, p.Months, p.Days} {
		if n < -end || n > end {
			return api.Date{}, api.ErrRange
		}
	}
	moved, e := dueAdd(all, d, 12*p.Years+p.Months, policy)
	if e != api.OK {
		return api.Date{}, e
	}
	return dueDays(moved, p.Days)
}

// starts are the ends of months of all lengths, some days ahead of them and their first ones, in years of all kinds.
func starts() []api.Date {
	var l []api.Date
	for _, y := range []int{
		-9999, -9998, -9997, -9996, -9900, -9600, -401, -400, -100, -4, -1, 0, 1, 4, 100, 400,
		1582, 1900, 1969, 1970, 2000, 2023, 2024, 2100, 9600, 9900, 9996, 9998, 9999,
	} {
		for m := 1; m <= 12; m++ {
			l = append(l, date(y, m, 1), date(y, m, 15))
			for n := 28; n <= length(y, m); n++ {
				l = append(l, date(y, m, n))
			}
		}
	}
	return l
}

// wrong are dates that may not be, and such as are out of range, with numbers that wrap too.
func wrong() []api.Date {
	l := []api.Date{{}}
	for _, y := range []int{2023, 1900, -9999, 9999, 10000, -10000, 1 << 32, most, least} {
		for _, n := range []int{0, -1, 32, 1<<32 + 1, most, least} {
			l = append(l, date(y, 1, n), date(y, n, 1), date(y, n, n))
		}
		l = append(l, date(y, 13, 1), date(y, 2, 30), date(y, 4, 31), date(y, 6, 31), date(y, 9, 31), date(y, 11, 31))
	}
	for _, y := range []int{10000, -10000, 10001, 12000, -12000, 1 << 32, -1 << 32, 1 << 62, most / 12, most, least, least / 12} {
		l = append(l, date(y, 1, 1), date(y, 12, 31), date(y, 2, 28))
	}
	return append(l, date(2023, 2, 29), date(1900, 2, 29), date(2100, 2, 29), date(-1, 2, 29), date(-100, 2, 29))
}

// steps are numbers of months of every kind: few, years, past the range, and such as wrap.
func steps() []int {
	l := []int{0, least, least + 1}
	for n := 1; n <= 27; n++ {
		l = append(l, n, -n)
	}
	for _, n := range []int{
		36, 37, 48, 120, 1188, 1200, 1201, 4799, 4800, 4801, 23628, 100000, 119988, 119999, 120000,
		count - 2, count - 1, count, count + 1, end, 13 * end, 1<<31 - 1, 1 << 31, 1 << 32, 1<<32 + 1,
		1 << 62, most / 12, most - 200000, most - 24000, most - 1, most,
	} {
		l = append(l, n, -n)
	}
	return l
}

func holdAdd(t *testing.T, d api.Date, n, policy int, want api.Date, wantE api.Errno) {
	t.Helper()
	if got, e := months.Add(d, n, policy); got != want || e != wantE {
		t.Fatalf("Add(%v, %d, %d) = %v, %d, want %v, %d", d, n, policy, got, e, want, wantE)
	}
}

func holdPlus(t *testing.T, d api.Date, p api.Period, policy int, want api.Date, wantE api.Errno) {
	t.Helper()
	if got, e := months.Plus(d, p, policy); got != want || e != wantE {
		t.Fatalf("Plus(%v, %v, %d) = %v, %d, want %v, %d", d, p, policy, got, e, want, wantE)
	}
}

// Add: the chapter's examples, each policy, both ways, across years' ends and year 0

func TestAdd(t *testing.T) {
	none := api.Date{}
	for _, c := range []struct {
		d         api.Date
		n, policy int
		want      api.Date
		e         api.Errno
	}{
		{date(2024, 1, 31), 1, api.Clamp, date(2024, 2, 29), api.OK},
		{date(2024, 1, 31), 1, api.Reject, none, api.ErrNoSuchDay},
		{date(2023, 1, 31), 1, api.Clamp, date(2023, 2, 28), api.OK},
		{date(2023, 1, 31), 1, api.Reject, none, api.ErrNoSuchDay},
		{date(2024, 1, 29), 1, api.Reject, date(2024, 2, 29), api.OK},
		{date(2023, 1, 29), 1, api.Reject, none, api.ErrNoSuchDay},
		{date(2023, 1, 28), 1, api.Reject, date(2023, 2, 28), api.OK},
		{date(2024, 2, 29), 1, api.Clamp, date(2024, 3, 29), api.OK}, // the same day, not the last one
		{date(2024, 2, 29), 12, api.Clamp, date(2025, 2, 28), api.OK},
		{date(2024, 2, 29), 12, api.Reject, none, api.ErrNoSuchDay},
		{date(2024, 2, 29), 48, api.Reject, date(2028, 2, 29), api.OK},
		{date(2096, 2, 29), 48, api.Clamp, date(2100, 2, 28), api.OK},
		{date(2096, 2, 29), 48, api.Reject, none, api.ErrNoSuchDay},
		{date(1996, 2, 29), 48, api.Reject, date(2000, 2, 29), api.OK},
		{date(2024, 3, 31), 1, api.Clamp, date(2024, 4, 30), api.OK},
		{date(2024, 3, 31), 1, api.Reject, none, api.ErrNoSuchDay},
		{date(2024, 3, 31), 2, api.Reject, date(2024, 5, 31), api.OK},
		{date(2024, 3, 31), -1, api.Clamp, date(2024, 2, 29), api.OK},
		{date(2024, 3, 31), -1, api.Reject, none, api.ErrNoSuchDay},
		{date(2024, 3, 31), -13, api.Clamp, date(2023, 2, 28), api.OK},
		{date(2024, 5, 31), 0, api.Clamp, date(2024, 5, 31), api.OK},
		{date(2024, 5, 31), 0, api.Reject, date(2024, 5, 31), api.OK},
		{date(2023, 12, 31), 1, api.Reject, date(2024, 1, 31), api.OK},
		{date(2024, 1, 31), -1, api.Reject, date(2023, 12, 31), api.OK},
		{date(2023, 11, 30), 1, api.Reject, date(2023, 12, 30), api.OK},
		{date(2023, 12, 5), 12, api.Reject, date(2024, 12, 5), api.OK},
		{date(2023, 12, 5), -12, api.Reject, date(2022, 12, 5), api.OK},
		{date(2023, 12, 5), -11, api.Reject, date(2023, 1, 5), api.OK},
		{date(0, 1, 1), -1, api.Reject, date(-1, 12, 1), api.OK},
		{date(-1, 12, 1), 1, api.Reject, date(0, 1, 1), api.OK},
		{date(1, 3, 31), -13, api.Clamp, date(0, 2, 29), api.OK},
		{date(-4, 1, 30), 1, api.Clamp, date(-4, 2, 29), api.OK},
		{date(-100, 1, 30), 1, api.Clamp, date(-100, 2, 28), api.OK},
		{date(-400, 1, 30), 1, api.Clamp, date(-400, 2, 29), api.OK},
		{date(5, 6, 7), -120, api.Reject, date(-5, 6, 7), api.OK},
		{date(-9999, 1, 31), count - 1, api.Clamp, date(9999, 12, 31), api.OK},
		{date(9999, 12, 31), 1 - count, api.Reject, date(-9999, 1, 31), api.OK},
	} {
		holdAdd(t, c.d, c.n, c.policy, c.want, c.e)
	}
}

// Add: ErrRange at both ends, with no wrapping; ahead of ErrNoSuchDay of the result, but behind that of d

func TestAddAtTheEnds(t *testing.T) {
	for _, c := range []struct {
		d    api.Date
		n    int
		want api.Date
		e    api.Errno
	}{
		{date(9999, 11, 30), 1, date(9999, 12, 30), api.OK},
		{date(9999, 12, 1), 0, date(9999, 12, 1), api.OK},
		{date(9999, 12, 1), 1, api.Date{}, api.ErrRange},
		{date(9999, 12, 31), 1, api.Date{}, api.ErrRange},
		{date(9999, 12, 31), 2, api.Date{}, api.ErrRange}, // February has no such day either
		{date(9999, 12, 31), 4, api.Date{}, api.ErrRange},
		{date(-9999, 1, 31), 0, date(-9999, 1, 31), api.OK},
		{date(-9999, 1, 31), -1, api.Date{}, api.ErrRange},
		{date(-9999, 1, 31), -2, api.Date{}, api.ErrRange}, // nor has November
		{date(-9999, 2, 1), -1, date(-9999, 1, 1), api.OK},
		{date(-9999, 2, 1), -2, api.Date{}, api.ErrRange},
		{date(-9999, 1, 1), count - 1, date(9999, 12, 1), api.OK},
		{date(-9999, 1, 1), count, api.Date{}, api.ErrRange},
		{date(9999, 12, 1), 1 - count, date(-9999, 1, 1), api.OK},
		{date(9999, 12, 1), -count, api.Date{}, api.ErrRange},
		{date(2024, 1, 1), most, api.Date{}, api.ErrRange},
		{date(2024, 1, 31), most, api.Date{}, api.ErrRange},
		{date(-2024, 1, 31), most, api.Date{}, api.ErrRange},
		{date(2024, 1, 1), least, api.Date{}, api.ErrRange},
		{date(-2024, 1, 31), least, api.Date{}, api.ErrRange},
		{date(2024, 1, 1), 1 << 62, api.Date{}, api.ErrRange},
		{date(2024, 1, 1), 12 << 32, api.Date{}, api.ErrRange}, // the same year, if it wrapped
	} {
		for _, policy := range policies {
			holdAdd(t, c.d, c.n, policy, c.want, c.e)
		}
	}
}

// Add: from two dates to each month in range, by each policy, and past both ends

func TestAddToAllMonths(t *testing.T) {
	all := walk()
	if len(all) != count {
		t.Fatalf("%d months in range, want %d", len(all), count)
	}
	for _, d := range []api.Date{date(2024, 1, 31), date(-3, 6, 29)} {
		from := place(d)
		for to, month := range all {
			for _, policy := range policies {
				want, e := fitted(month, d.D, policy)
				holdAdd(t, d, to-from, policy, want, e)
			}
		}
		for past := 1; past <= 30; past++ {
			for _, policy := range policies {
				holdAdd(t, d, -from-past, policy, api.Date{}, api.ErrRange)
				holdAdd(t, d, count-1-from+past, policy, api.Date{}, api.ErrRange)
			}
		}
	}
}

// Add: all starts with all steps, by each policy

func TestAddAll(t *testing.T) {
	all := walk()
	for _, d := range starts() {
		for _, n := range steps() {
			for _, policy := range policies {
				want, e := dueAdd(all, d, n, policy)
				holdAdd(t, d, n, policy, want, e)
			}
		}
	}
}

// Add: the errors' order, each beside no date

func TestAddWrong(t *testing.T) {
	for _, d := range wrong() {
		e := may(d)
		if e == api.OK {
			t.Fatalf("%v may be", d)
		}
		for _, n := range steps() {
			for _, policy := range policies {
				holdAdd(t, d, n, policy, api.Date{}, e)
			}
			for _, policy := range badPolicies() {
				holdAdd(t, d, n, policy, api.Date{}, api.ErrBadArg)
			}
		}
	}
	for _, d := range []api.Date{date(2024, 1, 1), date(2024, 1, 31), date(-9999, 1, 1), date(9999, 12, 31)} {
		for _, n := range steps() {
			for _, policy := range badPolicies() {
				holdAdd(t, d, n, policy, api.Date{}, api.ErrBadArg)
			}
		}
	}
}

func TestAddWrongByHand(t *testing.T) {
	for _, c := range []struct {
		d         api.Date
		n, policy int
		e         api.Errno
	}{
		{date(2024, 1, 1), 1, 2, api.ErrBadArg},
		{date(2024, 1, 1), 0, -1, api.ErrBadArg},
		{date(2023, 2, 29), 0, 2, api.ErrBadArg},
		{date(10000, 1, 1), 0, 2, api.ErrBadArg},
		{date(2024, 1, 1), most, 2, api.ErrBadArg},
		{date(2023, 2, 29), 0, api.Clamp, api.ErrNoSuchDay}, // what is handed in is not clamped
		{date(2023, 2, 29), 12, api.Clamp, api.ErrNoSuchDay},
		{date(2024, 13, 1), -1, api.Clamp, api.ErrNoSuchDay},
		{date(2024, 0, 1), 1, api.Clamp, api.ErrNoSuchDay},
		{date(2024, 1, 0), 1, api.Clamp, api.ErrNoSuchDay},
		{date(2024, 4, 31), most, api.Reject, api.ErrNoSuchDay},
		{date(10000, 2, 30), most, api.Reject, api.ErrNoSuchDay},
		{date(10000, 1, 1), -12, api.Clamp, api.ErrRange}, // though the month were in range
		{date(-10000, 12, 31), 12, api.Reject, api.ErrRange},
		{date(10000, 1, 31), -11, api.Reject, api.ErrRange},
	} {
		holdAdd(t, c.d, c.n, c.policy, api.Date{}, c.e)
	}
}

// Plus: the chapter's example; months ahead of days, years and months taken together, each part of any sign

func TestPlus(t *testing.T) {
	none := api.Date{}
	for _, c := range []struct {
		d      api.Date
		p      api.Period
		policy int
		want   api.Date
		e      api.Errno
	}{
		{date(2024, 1, 31), of(0, 1, 1), api.Clamp, date(2024, 3, 1), api.OK},
		{date(2024, 1, 31), of(0, 1, 1), api.Reject, none, api.ErrNoSuchDay},
		{date(2024, 1, 31), of(1, 1, 1), api.Clamp, date(2025, 3, 1), api.OK},
		{date(2024, 1, 31), of(1, 1, 1), api.Reject, none, api.ErrNoSuchDay},
		{date(2024, 1, 31), of(0, 1, -1), api.Clamp, date(2024, 2, 28), api.OK}, // days ahead would make it 29
		{date(2024, 1, 31), of(0, 1, -1), api.Reject, none, api.ErrNoSuchDay},   // though a day less were there
		{date(2024, 1, 31), of(0, 0, 1), api.Reject, date(2024, 2, 1), api.OK},
		{date(2024, 1, 31), api.Period{}, api.Reject, date(2024, 1, 31), api.OK},
		{date(2024, 2, 29), of(1, 1, 0), api.Clamp, date(2025, 3, 29), api.OK}, // year and month at once: not by 2025-02-28
		{date(2024, 2, 29), of(1, 1, 0), api.Reject, date(2025, 3, 29), api.OK},
		{date(2024, 2, 29), of(1, -12, 0), api.Reject, date(2024, 2, 29), api.OK},
		{date(2024, 2, 29), of(1, 0, 0), api.Clamp, date(2025, 2, 28), api.OK},
		{date(2024, 2, 29), of(1, 0, 0), api.Reject, none, api.ErrNoSuchDay},
		{date(2024, 3, 31), of(0, -1, 1), api.Clamp, date(2024, 3, 1), api.OK},
		{date(2024, 3, 31), of(-1, -1, -28), api.Clamp, date(2023, 1, 31), api.OK},
		{date(2023, 12, 31), of(0, 0, 366), api.Reject, date(2024, 12, 31), api.OK},
		{date(1970, 1, 1), of(0, 0, 11017), api.Reject, date(2000, 3, 1), api.OK},
		{date(0, 1, 1), of(0, 0, -1), api.Reject, date(-1, 12, 31), api.OK},
		{date(9999, 12, 30), of(0, 0, 1), api.Reject, date(9999, 12, 31), api.OK},
		{date(9999, 12, 31), of(0, 0, 1), api.Reject, none, api.ErrRange},
		{date(-9999, 1, 2), of(0, 0, -1), api.Reject, date(-9999, 1, 1), api.OK},
		{date(-9999, 1, 1), of(0, 0, -1), api.Reject, none, api.ErrRange},
		{date(9999, 12, 1), of(0, 1, -1), api.Clamp, none, api.ErrRange}, // though the days lead back
		{date(-9999, 1, 31), of(0, -1, 31), api.Clamp, none, api.ErrRange},
		{date(9999, 11, 30), of(0, 1, 1), api.Clamp, date(9999, 12, 31), api.OK},
		{date(9999, 11, 30), of(0, 1, 2), api.Clamp, none, api.ErrRange},
		{date(9999, 1, 31), of(0, 1, 400), api.Reject, none, api.ErrNoSuchDay}, // Add's error is told, days are not tried
		{date(9999, 1, 31), of(0, 1, 400), api.Clamp, none, api.ErrRange},
		{date(-9999, 1, 1), of(19998, 11, 30), api.Reject, date(9999, 12, 31), api.OK},
		{date(-9999, 1, 1), of(19998, 11, 31), api.Reject, none, api.ErrRange},
		{date(-9999, 1, 1), of(83333, -end, 0), api.Reject, none, api.ErrRange}, // 4 months back
		{date(-9998, 1, 1), of(83333, -end, 0), api.Reject, date(-9999, 9, 1), api.OK},
		{date(0, 1, 1), of(0, 0, end), api.Reject, date(2737, 11, 28), api.OK},
		{date(9999, 12, 31), of(0, 0, -end), api.Reject, date(7262, 2, 2), api.OK},
	} {
		holdPlus(t, c.d, c.p, c.policy, c.want, c.e)
	}
}

// Plus: the errors' order: the policy, d, p's range, Add's error, the days' range

func TestPlusErrors(t *testing.T) {
	for _, c := range []struct {
		d      api.Date
		p      api.Period
		policy int
		e      api.Errno
	}{
		{date(2024, 1, 31), of(0, 0, end+1), api.Clamp, api.ErrRange},
		{date(2024, 1, 31), of(0, 0, -end-1), api.Clamp, api.ErrRange},
		{date(2024, 1, 31), of(0, 1, end+1), api.Reject, api.ErrRange}, // ahead of ErrNoSuchDay of the result
		{date(2024, 1, 31), of(end+1, 0, 0), api.Clamp, api.ErrRange},
		{date(2024, 1, 31), of(83334, -end-8, 0), api.Clamp, api.ErrRange}, // no months in all
		{date(2024, 1, 31), of(end, 0, 0), api.Reject, api.ErrRange},
		{date(2024, 1, 31), of(0, 0, most), api.Clamp, api.ErrRange},
		{date(2024, 1, 31), of(0, 0, least), api.Clamp, api.ErrRange},
		{date(2024, 1, 31), of(1<<62, 0, 0), api.Clamp, api.ErrRange}, // no months, if it wrapped
		{date(2024, 1, 31), of(1<<62, 1<<62, 1<<62), 2, api.ErrBadArg},
		{date(2024, 1, 31), of(0, 0, 0), 2, api.ErrBadArg},
		{date(2024, 1, 31), of(0, 0, 0), -1, api.ErrBadArg},
		{date(2023, 2, 29), of(end+1, 0, 0), 2, api.ErrBadArg},
		{date(2023, 2, 29), of(0, 0, 0), api.Clamp, api.ErrNoSuchDay},
		{date(2023, 2, 29), of(end+1, 0, 0), api.Clamp, api.ErrNoSuchDay},
		{date(10000, 1, 1), of(0, 0, -1), api.Clamp, api.ErrRange}, // though the result were in range
		{date(10000, 1, 1), of(-1, 0, 0), api.Clamp, api.ErrRange},
		{date(-10000, 12, 31), of(0, 0, 1), api.Reject, api.ErrRange},
		{date(10000, 2, 30), of(-1, 0, 0), api.Reject, api.ErrNoSuchDay},
	} {
		holdPlus(t, c.d, c.p, c.policy, api.Date{}, c.e)
	}
}

// periods are those of few and of many months and days, of every sign, and such as are out of range.
func periods() []api.Period {
	days := []int{0, 1, 27, 28, 31, 365, 366, 146097, 719528, end - 1, end, end + 1, 1 << 62, most}
	var l []api.Period
	for _, m := range []int{0, 1, 2, 3, 11, 12, 13, 25, 48, 1200, 4800, 100000, end, end + 1, most} {
		for _, y := range []int{0, 1, 4, 100, 9999, 19998, 83333, end, end + 1, 1 << 62, most} {
			d := days[(len(l)*5+m%7)%len(days)]
			l = append(l, of(y, m, d), of(-y, -m, -d), of(y, -m, d), of(-y, m, -d))
		}
	}
	for _, d := range append(days, least) {
		l = append(l, of(0, 1, d), of(0, -1, -d), of(1, 0, -d), of(-1, -1, d))
	}
	return l
}

func TestPlusAll(t *testing.T) {
	all := walk()
	for _, d := range append(starts(), wrong()...) {
		for _, p := range periods() {
			for _, policy := range []int{api.Clamp, api.Reject, 2, -1} {
				want, e := duePlus(all, d, p, policy)
				holdPlus(t, d, p, policy, want, e)
			}
		}
	}
}

// Plus: days one by one, over both ends of the range

func TestPlusDays(t *testing.T) {
	for _, d := range []api.Date{date(-9999, 1, 1), date(-9999, 3, 1), date(0, 2, 29), date(2024, 12, 31), date(9999, 2, 28), date(9999, 12, 31)} {
		for n := -800; n <= 800; n++ {
			for _, policy := range policies {
				want, e := dueDays(d, n)
				holdPlus(t, d, of(0, 0, n), policy, want, e)
				holdPlus(t, d, of(1, -12, n), policy, want, e) // no months in all
			}
		}
	}
}

// Last: of each month in range, from any of its days; Check's error

func TestLast(t *testing.T) {
	for _, c := range []struct {
		d, want api.Date
		e       api.Errno
	}{
		{date(2024, 2, 1), date(2024, 2, 29), api.OK},
		{date(2024, 2, 29), date(2024, 2, 29), api.OK},
		{date(2023, 2, 28), date(2023, 2, 28), api.OK},
		{date(2100, 2, 1), date(2100, 2, 28), api.OK},
		{date(2000, 2, 1), date(2000, 2, 29), api.OK},
		{date(0, 2, 1), date(0, 2, 29), api.OK},
		{date(-100, 2, 1), date(-100, 2, 28), api.OK},
		{date(2024, 4, 30), date(2024, 4, 30), api.OK},
		{date(2024, 12, 5), date(2024, 12, 31), api.OK},
		{date(9999, 12, 1), date(9999, 12, 31), api.OK},
		{date(-9999, 1, 1), date(-9999, 1, 31), api.OK},
		{date(2023, 2, 29), api.Date{}, api.ErrNoSuchDay},
		{date(2024, 1, 0), api.Date{}, api.ErrNoSuchDay},
		{date(2024, 1, 32), api.Date{}, api.ErrNoSuchDay},
		{date(2024, 13, 1), api.Date{}, api.ErrNoSuchDay},
		{date(10000, 0, 1), api.Date{}, api.ErrNoSuchDay},
		{date(10000, 1, 1), api.Date{}, api.ErrRange},
		{date(-10000, 12, 31), api.Date{}, api.ErrRange},
		{date(most, 1, 1), api.Date{}, api.ErrRange},
		{date(least, 1, 1), api.Date{}, api.ErrRange},
		{date(most, most, most), api.Date{}, api.ErrNoSuchDay},
	} {
		holdLast(t, c.d, c.want, c.e)
	}
	for _, d := range wrong() {
		holdLast(t, d, api.Date{}, may(d))
	}
	for _, month := range walk() {
		end := length(month.Y, month.M)
		for _, n := range []int{1, 2, 15, 28, end - 1, end} {
			holdLast(t, date(month.Y, month.M, n), date(month.Y, month.M, end), api.OK)
		}
	}
}

func holdLast(t *testing.T, d, want api.Date, wantE api.Errno) {
	t.Helper()
	if got, e := months.Last(d); got != want || e != wantE {
		t.Fatalf("Last(%v) = %v, %d, want %v, %d", d, got, e, want, wantE)
	}
}
