package clock_test

// Each test names the promise that it holds (shared/doc/08-clock.md). What the
// numbers should be is told by a walk over a day's seconds, by math/big, and by
// the library's time (of which no clock is asked), beside values that are
// written out by hand.

import (
	"math"
	"math/big"
	"testing"
	"time"

	"analemma/api"
	"analemma/clock"
	"analemma/dur"
)

const (
	most     = math.MaxInt
	least    = math.MinInt
	lastNano = 999999999
	daySecs  = 86400
	day      = daySecs * 1000000000
)

// numbers are such as may be a part of a time and such as may not, among them
// such as wrap to others in nanoseconds (2^51 hours, 2^53 minutes, 2^55 seconds).
func numbers() []int {
	return []int{
		least, least + 1, -1 << 55, -1 << 53, -1 << 51, -1 << 32, -1000000000, -lastNano, -60, -59, -24, -23, -1,
		0, 1, 9, 11, 12, 13, 22, 23, 24, 25, 58, 59, 60, 61, lastNano - 1, lastNano, 1000000000, 1000000001,
		1 << 32, 1<<32 + 1, 1 << 51, 1<<51 + 1, 1 << 53, 1<<53 + 1, 1 << 55, 1<<55 + 1, most - 1, most,
	}
}

// clocks are all of numbers, as each of the four parts.
func clocks() []api.Clock {
	var l []api.Clock
	for _, h := range numbers() {
		for _, m := range numbers() {
			for _, s := range numbers() {
				for _, n := range numbers() {
					l = append(l, api.Clock{H: h, M: m, S: s, N: n})
				}
			}
		}
	}
	return l
}

// good are times that may be: the edges of each part, and some between.
func good() []api.Clock {
	var l []api.Clock
	for _, h := range []int{0, 1, 11, 12, 22, 23} {
		for _, m := range []int{0, 1, 58, 59} {
			for _, s := range []int{0, 1, 30, 59} {
				for _, n := range []int{0, 1, 500000000, lastNano} {
					l = append(l, api.Clock{H: h, M: m, S: s, N: n})
				}
			}
		}
	}
	return l
}

func within(n, last int) bool {
	return 0 <= n && n <= last
}

func dueCheck(c api.Clock) api.Errno {
	if within(c.H, 23) && within(c.M, 59) && within(c.S, 59) && within(c.N, lastNano) {
		return api.OK
	}
	return api.ErrBadArg
}

// dueNanos is told by the library's time.
func dueNanos(c api.Clock) int {
	midnight := time.Date(2000, 1, 1, 0, 0, 0, 0, time.UTC)
	return int(time.Date(2000, 1, 1, c.H, c.M, c.S, c.N, time.UTC).Sub(midnight))
}

// dueClock is that of nanoseconds of one day, told by the library's time.
func dueClock(nanos int) api.Clock {
	when := time.Unix(0, int64(nanos)).UTC()
	return api.Clock{H: when.Hour(), M: when.Minute(), S: when.Second(), N: when.Nanosecond()}
}

// dueAdd is told by math/big: all in nanoseconds, and the days rounded down.
func dueAdd(c api.Clock, d api.Dur) (api.Clock, int) {
	sum := new(big.Int).Mul(big.NewInt(int64(d.Sec)), big.NewInt(1e9))
	sum.Add(sum, big.NewInt(int64(d.Nano)))
	sum.Add(sum, big.NewInt(int64(dueNanos(c))))
	days, rest := sum.DivMod(sum, big.NewInt(day), new(big.Int)) // down: day is above 0
	return dueClock(int(rest.Int64())), int(days.Int64())
}

// 8.1: Check: each part has its own bounds, and nothing is carried

func TestCheck(t *testing.T) {
	for _, c := range []struct {
		c api.Clock
		e api.Errno
	}{
		{api.Clock{}, api.OK},
		{api.Clock{H: 12, M: 34, S: 56, N: 789}, api.OK},
		{api.Clock{H: 23, M: 59, S: 59, N: lastNano}, api.OK},
		{api.Clock{H: 23}, api.OK},
		{api.Clock{M: 59}, api.OK},
		{api.Clock{S: 59}, api.OK},
		{api.Clock{N: lastNano}, api.OK},
		{api.Clock{H: 24}, api.ErrBadArg},
		{api.Clock{M: 60}, api.ErrBadArg},
		{api.Clock{S: 60}, api.ErrBadArg},
		{api.Clock{H: 23, M: 59, S: 60}, api.ErrBadArg}, // no leap second
		{api.Clock{N: 1000000000}, api.ErrBadArg},
		{api.Clock{H: -1}, api.ErrBadArg},
		{api.Clock{M: -1}, api.ErrBadArg},
		{api.Clock{S: -1}, api.ErrBadArg},
		{api.Clock{N: -1}, api.ErrBadArg},
		{api.Clock{H: 1, M: -1}, api.ErrBadArg}, // though together they come to 00:59
		{api.Clock{M: 1, S: -1}, api.ErrBadArg},
		{api.Clock{S: 1, N: -1}, api.ErrBadArg},
		{api.Clock{H: -1, M: 60}, api.ErrBadArg},
		{api.Clock{H: 24, M: -1}, api.ErrBadArg},
		{api.Clock{H: 59, M: 23}, api.ErrBadArg},
		{api.Clock{H: 1 << 51}, api.ErrBadArg}, // 0 nanoseconds, if they wrapped
		{api.Clock{H: 1<<51 + 1}, api.ErrBadArg},
		{api.Clock{M: 1 << 53}, api.ErrBadArg},
		{api.Clock{S: 1 << 55}, api.ErrBadArg},
		{api.Clock{H: 1 << 32}, api.ErrBadArg},
		{api.Clock{H: most}, api.ErrBadArg},
		{api.Clock{N: most}, api.ErrBadArg},
		{api.Clock{H: least, M: least, S: least, N: least}, api.ErrBadArg},
		{api.Clock{H: most, M: most, S: most, N: most}, api.ErrBadArg},
	} {
		if e := clock.Check(c.c); e != c.e {
			t.Errorf("Check(%v) = %d, want %d", c.c, e, c.e)
		}
	}
	for _, c := range clocks() {
		if e := clock.Check(c); e != dueCheck(c) {
			t.Fatalf("Check(%v) = %d, want %d", c, e, dueCheck(c))
		}
	}
}

// 8.1: Check alone, of each number near a bound, in each place

func TestCheckOfEachPart(t *testing.T) {
	for n := -200; n <= 200; n++ {
		for _, c := range []api.Clock{{H: n}, {M: n}, {S: n}, {N: n}, {N: n + 1000000000}, {H: n, M: n, S: n, N: n}} {
			if e := clock.Check(c); e != dueCheck(c) {
				t.Errorf("Check(%v) = %d, want %d", c, e, dueCheck(c))
			}
		}
	}
}

// 8.1: Nanos, and Of back

func TestNanos(t *testing.T) {
	for _, c := range []struct {
		c    api.Clock
		want int
	}{
		{api.Clock{}, 0},
		{api.Clock{N: 1}, 1},
		{api.Clock{N: lastNano}, 999999999},
		{api.Clock{S: 1}, 1000000000},
		{api.Clock{M: 1}, 60000000000},
		{api.Clock{H: 1}, 3600000000000},
		{api.Clock{H: 1, M: 2, S: 3, N: 4}, 3723000000004},
		{api.Clock{H: 12}, 43200000000000},
		{api.Clock{H: 23}, 82800000000000},
		{api.Clock{M: 59}, 3540000000000},
		{api.Clock{S: 59}, 59000000000},
		{api.Clock{H: 23, M: 59, S: 59, N: lastNano}, 86399999999999},
	} {
		hold(t, c.c, c.want)
	}
	for _, c := range good() {
		hold(t, c, dueNanos(c))
	}
}

// hold holds that Nanos(c) tells nanos, and Of of these c.
func hold(t *testing.T, c api.Clock, nanos int) {
	t.Helper()
	if got, e := clock.Nanos(c); got != nanos || e != api.OK {
		t.Fatalf("Nanos(%v) = %d, %d, want %d", c, got, e, nanos)
	}
	if got, e := clock.Of(nanos); got != c || e != api.OK {
		t.Fatalf("Of(%d) = %v, %d, want %v", nanos, got, e, c)
	}
}

// 8.1: Nanos and Of, of all seconds of a day, one by one, at both ends of each

func TestAllSeconds(t *testing.T) {
	second := 0
	for h := range 24 {
		for m := range 60 {
			for s := range 60 {
				for _, n := range []int{0, lastNano} {
					hold(t, api.Clock{H: h, M: m, S: s, N: n}, second*1000000000+n)
				}
				second++
			}
		}
	}
	if second != daySecs {
		t.Errorf("the walk ends at %d", second)
	}
}

// 8.1: Nanos and Half have Check's error, and zeros beside it

func TestErrorsOfNanosAndHalf(t *testing.T) {
	for _, c := range clocks() {
		want := dueCheck(c)
		if n, e := clock.Nanos(c); e != want || e != api.OK && n != 0 {
			t.Fatalf("Nanos(%v) = %d, %d, want %d", c, n, e, want)
		}
		if h, late, e := clock.Half(c); e != want || e != api.OK && (h != 0 || late) {
			t.Fatalf("Half(%v) = %d, %v, %d, want %d", c, h, late, e, want)
		}
	}
}

// 8.1: Of: ErrRange below 0 and from 86400 seconds on

func TestOf(t *testing.T) {
	for _, c := range []struct {
		nanos int
		want  api.Clock
		e     api.Errno
	}{
		{0, api.Clock{}, api.OK},
		{1, api.Clock{N: 1}, api.OK},
		{lastNano, api.Clock{N: lastNano}, api.OK},
		{1000000000, api.Clock{S: 1}, api.OK},
		{59999999999, api.Clock{S: 59, N: lastNano}, api.OK},
		{60000000000, api.Clock{M: 1}, api.OK},
		{3599999999999, api.Clock{M: 59, S: 59, N: lastNano}, api.OK},
		{3600000000000, api.Clock{H: 1}, api.OK},
		{3723000000004, api.Clock{H: 1, M: 2, S: 3, N: 4}, api.OK},
		{43200000000000, api.Clock{H: 12}, api.OK},
		{86399999999998, api.Clock{H: 23, M: 59, S: 59, N: lastNano - 1}, api.OK},
		{86399999999999, api.Clock{H: 23, M: 59, S: 59, N: lastNano}, api.OK},
		{86400000000000, api.Clock{}, api.ErrRange},
		{86400000000001, api.Clock{}, api.ErrRange},
		{2 * day, api.Clock{}, api.ErrRange},
		{-1, api.Clock{}, api.ErrRange},
		{-1000000000, api.Clock{}, api.ErrRange},
		{1 - day, api.Clock{}, api.ErrRange},
		{-day, api.Clock{}, api.ErrRange},
		{-day - 1, api.Clock{}, api.ErrRange},
		{1 << 62, api.Clock{}, api.ErrRange},
		{-1 << 62, api.Clock{}, api.ErrRange},
		{most, api.Clock{}, api.ErrRange},
		{least, api.Clock{}, api.ErrRange},
	} {
		if got, e := clock.Of(c.nanos); got != c.want || e != c.e {
			t.Errorf("Of(%d) = %v, %d, want %v, %d", c.nanos, got, e, c.want, c.e)
		}
	}
}

func TestOfAll(t *testing.T) {
	for nanos := -3 * day; nanos <= 3*day; nanos += 7654321987 {
		holdOf(t, nanos)
	}
	for n := range 63 {
		for by := -1; by <= 1; by++ {
			holdOf(t, 1<<n+by)
			holdOf(t, -1<<n+by)
		}
	}
}

// holdOf holds Of of any number against the library's time.
func holdOf(t *testing.T, nanos int) {
	t.Helper()
	want, wantE := api.Clock{}, api.ErrRange
	if 0 <= nanos && nanos < day {
		want, wantE = dueClock(nanos), api.OK
	}
	if got, e := clock.Of(nanos); got != want || e != wantE {
		t.Errorf("Of(%d) = %v, %d, want %v, %d", nanos, got, e, want, wantE)
	}
}

// 8.1: Add: the chapter's examples, the edges, and others written out by hand

func TestAdd(t *testing.T) {
	last := api.Clock{H: 23, M: 59, S: 59, N: lastNano}
	for _, c := range []struct {
		c    api.Clock
		d    api.Dur
		want api.Clock
		days int
	}{
		{last, api.Dur{Nano: 1}, api.Clock{}, 1},
		{api.Clock{}, api.Dur{Sec: -1, Nano: lastNano}, last, -1},
		{api.Clock{}, api.Dur{}, api.Clock{}, 0},
		{last, api.Dur{}, last, 0},
		{last, api.Dur{Sec: -1, Nano: lastNano}, api.Clock{H: 23, M: 59, S: 59, N: lastNano - 1}, 0},
		{api.Clock{H: 12, M: 30}, api.Dur{Sec: 5400}, api.Clock{H: 14}, 0},
		{api.Clock{H: 12, M: 30}, api.Dur{Sec: -5400}, api.Clock{H: 11}, 0},
		{api.Clock{H: 22}, api.Dur{Sec: 7199, Nano: lastNano}, last, 0},
		{api.Clock{H: 22}, api.Dur{Sec: 7200}, api.Clock{}, 1},
		{api.Clock{H: 2}, api.Dur{Sec: -7200}, api.Clock{}, 0},
		{api.Clock{H: 2}, api.Dur{Sec: -7201, Nano: lastNano}, last, -1},
		{api.Clock{S: 59, N: 600000000}, api.Dur{Nano: 600000000}, api.Clock{M: 1, N: 200000000}, 0},
		{api.Clock{M: 1, N: 200000000}, api.Dur{Sec: -1, Nano: 400000000}, api.Clock{S: 59, N: 600000000}, 0},
		{api.Clock{}, api.Dur{Sec: 86400}, api.Clock{}, 1},
		{api.Clock{}, api.Dur{Sec: -86400}, api.Clock{}, -1},
		{api.Clock{}, api.Dur{Sec: -86401}, api.Clock{H: 23, M: 59, S: 59}, -2},
		{api.Clock{}, api.Dur{Sec: -86401, Nano: lastNano}, last, -2},
		{last, api.Dur{Sec: 86400, Nano: 1}, api.Clock{}, 2},
		{last, api.Dur{Sec: 86399, Nano: lastNano}, api.Clock{H: 23, M: 59, S: 59, N: lastNano - 1}, 1},
		{last, api.Dur{Sec: -86400}, last, -1},
		{last, api.Dur{Sec: -86400, Nano: 1}, api.Clock{}, 0},
		{api.Clock{H: 6}, api.Dur{Sec: 365 * 86400}, api.Clock{H: 6}, 365},
		{api.Clock{}, api.Dur{Sec: api.MaxDur}, api.Clock{M: 36, S: 16}, 12725829},
		{api.Clock{}, api.Dur{Sec: -api.MaxDur}, api.Clock{H: 23, M: 23, S: 44}, -12725830},
		{last, api.Dur{Sec: api.MaxDur}, api.Clock{M: 36, S: 15, N: lastNano}, 12725830},
		{last, api.Dur{Sec: -api.MaxDur}, api.Clock{H: 23, M: 23, S: 43, N: lastNano}, -12725829},
		{api.Clock{}, api.Dur{Sec: -api.MaxDur, Nano: 1}, api.Clock{H: 23, M: 23, S: 44, N: 1}, -12725830},
		{api.Clock{}, api.Dur{Sec: api.MaxDur - 1, Nano: lastNano}, api.Clock{M: 36, S: 15, N: lastNano}, 12725829},
	} {
		if got, days, e := clock.Add(c.c, c.d); got != c.want || days != c.days || e != api.OK {
			t.Errorf("Add(%v, %v) = %v, %d, %d, want %v, %d", c.c, c.d, got, days, e, c.want, c.days)
		}
	}
}

// secs are those of durations about whole days, about the ends of the range, and of all sizes.
func secs() []int {
	var l []int
	for _, middle := range []int{
		0, 3600, 43200, daySecs, 2 * daySecs, 106751 * daySecs, 106752 * daySecs, 9223372036, api.MaxDur, api.MaxDur / daySecs * daySecs,
	} {
		for by := -2; by <= 2; by++ {
			l = append(l, middle+by, -middle+by)
		}
	}
	for n := 1; n < 63; n += 3 {
		l = append(l, 1<<n, -1<<n)
	}
	return append(l, least, least+1, most-1, most)
}

// durs are secs with nanoseconds that may be and such as may not.
func durs() []api.Dur {
	var l []api.Dur
	for _, sec := range secs() {
		for _, nano := range []int{0, 1, 500000000, lastNano - 1, lastNano, -1, 1000000000, least, most} {
			l = append(l, api.Dur{Sec: sec, Nano: nano})
		}
	}
	return l
}

// 8.1: Add of all good times and all durations: chapter 4's Check's error of d, or the sum

func TestAddAll(t *testing.T) {
	for _, d := range durs() {
		want := dur.Check(d)
		for _, c := range good() {
			var sum api.Clock
			days := 0
			if want == api.OK {
				sum, days = dueAdd(c, d)
			}
			if got, n, e := clock.Add(c, d); got != sum || n != days || e != want {
				t.Fatalf("Add(%v, %v) = %v, %d, %d, want %v, %d, %d", c, d, got, n, e, sum, days, want)
			}
		}
	}
}

// 8.1: Add: the errors, ErrBadArg ahead of ErrRange, and zeros beside them

func TestAddErrors(t *testing.T) {
	for _, c := range []struct {
		c api.Clock
		d api.Dur
		e api.Errno
	}{
		{api.Clock{H: 24}, api.Dur{}, api.ErrBadArg},
		{api.Clock{M: 60}, api.Dur{}, api.ErrBadArg},
		{api.Clock{S: 60}, api.Dur{Sec: -60}, api.ErrBadArg},
		{api.Clock{N: 1000000000}, api.Dur{Sec: -1}, api.ErrBadArg},
		{api.Clock{N: -1}, api.Dur{Nano: 1}, api.ErrBadArg},
		{api.Clock{}, api.Dur{Nano: -1}, api.ErrBadArg},
		{api.Clock{}, api.Dur{Nano: 1000000000}, api.ErrBadArg},
		{api.Clock{}, api.Dur{Sec: api.MaxDur, Nano: 1}, api.ErrRange},
		{api.Clock{}, api.Dur{Sec: api.MaxDur + 1}, api.ErrRange},
		{api.Clock{}, api.Dur{Sec: -api.MaxDur - 1, Nano: lastNano}, api.ErrRange},
		{api.Clock{}, api.Dur{Sec: most}, api.ErrRange},
		{api.Clock{}, api.Dur{Sec: least}, api.ErrRange},
		{api.Clock{}, api.Dur{Sec: api.MaxDur + 1, Nano: -1}, api.ErrBadArg},
		{api.Clock{}, api.Dur{Sec: least, Nano: least}, api.ErrBadArg},
		{api.Clock{H: 24}, api.Dur{Sec: api.MaxDur + 1}, api.ErrBadArg},
		{api.Clock{H: -1}, api.Dur{Sec: least}, api.ErrBadArg},
		{api.Clock{H: 24}, api.Dur{Nano: -1}, api.ErrBadArg},
		{api.Clock{H: most, M: most, S: most, N: most}, api.Dur{Sec: most, Nano: most}, api.ErrBadArg},
	} {
		if got, days, e := clock.Add(c.c, c.d); got != (api.Clock{}) || days != 0 || e != c.e {
			t.Errorf("Add(%v, %v) = %v, %d, %d, want %d", c.c, c.d, got, days, e, c.e)
		}
	}
	for _, c := range clocks() {
		for _, d := range []api.Dur{{}, {Sec: 1, Nano: 1}, {Nano: -1}, {Sec: api.MaxDur + 1}} {
			if dueCheck(c) == api.OK {
				continue
			}
			if got, days, e := clock.Add(c, d); got != (api.Clock{}) || days != 0 || e != api.ErrBadArg {
				t.Fatalf("Add(%v, %v) = %v, %d, %d, want %d", c, d, got, days, e, api.ErrBadArg)
			}
		}
	}
}

// 8.1: Half, of all hours, at both ends of each

func TestHalf(t *testing.T) {
	want := [24]int{12, 1, 2, 3, 4, 5, 6, 7, 8, 9, 10, 11, 12, 1, 2, 3, 4, 5, 6, 7, 8, 9, 10, 11}
	for h := range 24 {
		for _, c := range []api.Clock{{H: h}, {H: h, M: 30}, {H: h, N: 1}, {H: h, M: 59, S: 59, N: lastNano}} {
			if got, late, e := clock.Half(c); got != want[h] || late != (h >= 12) || e != api.OK {
				t.Errorf("Half(%v) = %d, %v, %d, want %d, %v", c, got, late, e, want[h], h >= 12)
			}
		}
	}
}
