package period_test

// Each test names the promise that it holds (shared/doc/10-period.md). What the
// numbers should be is told by math/big, field by field, and of Balance by a
// count of single months, beside values that are written out by hand.

import (
	"math"
	"math/big"
	"testing"

	"analemma/api"
	"analemma/period"
)

const (
	most  = math.MaxInt
	least = math.MinInt
	end   = 1000000 // of a field's range
)

func of(years, months, days int) api.Period {
	return api.Period{Years: years, Months: months, Days: days}
}

// inRange are fields at and about the edges of the range, 0, and 12 and its multiples.
func inRange() []int {
	l := []int{0}
	for _, n := range []int{1, 2, 11, 12, 13, 23, 24, 25, 1000, 83333, 499999, 500000, 500001, 999988, 999996, end - 1, end} {
		l = append(l, n, -n)
	}
	return l
}

// outside are fields past the range, and such as wrap to others in a sum or a product.
func outside() []int {
	l := []int{least, least + 1, least + end}
	for _, n := range []int{
		end + 1, end + 2, 2 * end, 12 * end, 1 << 31, 1 << 32, 1<<32 + 1, 1<<60 + 1,
		1 << 62, 1<<62 + 1, most/12 + 1, most/6 + 2, most - end, most - 1, most,
	} {
		l = append(l, n, -n)
	}
	return l
}

// factors are what periods are multiplied by: 0 is among them.
func factors() []int {
	l := append(inRange(), outside()...)
	for n := 1; n < 63; n++ {
		l = append(l, 1<<n, -1<<n)
	}
	return append(l, 3, -3, 7, -7, 1<<62-1, -1<<62+1)
}

// good are periods in range, each field of which has all of inRange.
func good() []api.Period {
	var l []api.Period
	fields := inRange()
	for n, years := range fields {
		for m, months := range fields {
			l = append(l, of(years, months, fields[(3*n+5*m)%len(fields)]))
		}
	}
	return l
}

// edges are periods of the ends and of 0, in all mixtures.
func edges() []api.Period {
	var l []api.Period
	for _, years := range []int{-end, -1, 0, 1, end} {
		for _, months := range []int{-end, -1, 0, 1, end} {
			for _, days := range []int{-end, -1, 0, 1, end} {
				l = append(l, of(years, months, days))
			}
		}
	}
	return l
}

// bad are periods of which one field, or all, are out of range.
func bad() []api.Period {
	var l []api.Period
	for _, n := range outside() {
		for _, in := range []int{0, -1, 12, end, -end} {
			l = append(l, of(n, in, in), of(in, n, in), of(in, in, n))
		}
		l = append(l, of(n, n, n), of(n, -n, 0), of(0, n, -n))
	}
	return l
}

func within(p api.Period) bool {
	for _, n := range []int{p.Years, p.Months, p.Days} {
		if n < -end || n > end {
			return false
		}
	}
	return true
}

// due is the period of three exact fields, or the error that there is none.
func due(years, months, days *big.Int) (api.Period, api.Errno) {
	var fields [3]int
	for n, field := range []*big.Int{years, months, days} {
		if field.CmpAbs(big.NewInt(end)) > 0 {
			return api.Period{}, api.ErrRange
		}
		fields[n] = int(field.Int64())
	}
	return of(fields[0], fields[1], fields[2]), api.OK
}

func large(n int) *big.Int {
	return big.NewInt(int64(n))
}

func dueAdd(a, b api.Period) (api.Period, api.Errno) {
	if !within(a) || !within(b) {
		return api.Period{}, api.ErrRange
	}
	sum := func(x, y int) *big.Int { return new(big.Int).Add(large(x), large(y)) }
	return due(sum(a.Years, b.Years), sum(a.Months, b.Months), sum(a.Days, b.Days))
}

func dueMul(p api.Period, n int) (api.Period, api.Errno) {
	if !within(p) {
		return api.Period{}, api.ErrRange
	}
	times := func(x int) *big.Int { return new(big.Int).Mul(large(x), large(n)) }
	return due(times(p.Years), times(p.Months), times(p.Days))
}

// 10.1: Check: each field at the range's ends, and one past them

func TestCheck(t *testing.T) {
	for _, c := range []struct {
		p api.Period
		e api.Errno
	}{
		{api.Period{}, api.OK},
		{of(1, -13, 5), api.OK},
		{of(end, end, end), api.OK},
		{of(-end, -end, -end), api.OK},
		{of(end, -end, end), api.OK},
		{of(end+1, 0, 0), api.ErrRange},
		{of(0, end+1, 0), api.ErrRange},
		{of(0, 0, end+1), api.ErrRange},
		{of(-end-1, 0, 0), api.ErrRange},
		{of(0, -end-1, 0), api.ErrRange},
		{of(0, 0, -end-1), api.ErrRange},
		{of(end+1, -end-1, end+1), api.ErrRange},
		{of(most, 0, 0), api.ErrRange},
		{of(0, most, 0), api.ErrRange},
		{of(0, 0, most), api.ErrRange},
		{of(least, 0, 0), api.ErrRange},
		{of(0, least, 0), api.ErrRange},
		{of(0, 0, least), api.ErrRange},
		{of(least, most, 0), api.ErrRange},
	} {
		if e := period.Check(c.p); e != c.e {
			t.Errorf("Check(%v) = %d, want %d", c.p, e, c.e)
		}
	}
}

func TestCheckAll(t *testing.T) {
	for _, p := range append(good(), edges()...) {
		if e := period.Check(p); e != api.OK {
			t.Fatalf("Check(%v) = %d, want OK", p, e)
		}
	}
	for _, p := range bad() {
		if e := period.Check(p); e != api.ErrRange {
			t.Fatalf("Check(%v) = %d, want ErrRange", p, e)
		}
	}
}

// 10.1: Add: field by field, nothing carried from one to another; what is handed in is asked, and the result

func TestAdd(t *testing.T) {
	for _, c := range []struct {
		a, b, want api.Period
		e          api.Errno
	}{
		{api.Period{}, api.Period{}, api.Period{}, api.OK},
		{of(1, 2, 3), of(10, 20, 30), of(11, 22, 33), api.OK},
		{of(1, 11, 30), of(0, 1, 1), of(1, 12, 31), api.OK},
		{of(1, -2, 3), of(-1, 2, -3), api.Period{}, api.OK},
		{of(0, -1, 5), of(2, 0, -7), of(2, -1, -2), api.OK},
		{of(end, end, end), of(-end, -end, -end), api.Period{}, api.OK},
		{of(end-1, 0, 0), of(1, 0, 0), of(end, 0, 0), api.OK},
		{of(end, 0, 0), of(1, 0, 0), api.Period{}, api.ErrRange},
		{of(0, end, 0), of(0, 1, 0), api.Period{}, api.ErrRange},
		{of(0, 0, end), of(0, 0, 1), api.Period{}, api.ErrRange},
		{of(1, 1, end), of(1, 1, 1), api.Period{}, api.ErrRange},
		{of(1-end, 0, 0), of(-1, 0, 0), of(-end, 0, 0), api.OK},
		{of(-end, 0, 0), of(-1, 0, 0), api.Period{}, api.ErrRange},
		{of(0, -end, 0), of(0, -1, 0), api.Period{}, api.ErrRange},
		{of(0, 0, -end), of(0, 0, -1), api.Period{}, api.ErrRange},
		{of(end, end, end), of(end, end, end), api.Period{}, api.ErrRange},
		{of(end+1, 0, 0), of(-1, 0, 0), api.Period{}, api.ErrRange}, // though the result were in range
		{of(0, -1, 0), of(0, end+1, 0), api.Period{}, api.ErrRange},
		{of(0, 0, 1), of(0, 0, -end-1), api.Period{}, api.ErrRange},
		{of(most, 0, 0), of(-most, 0, 0), api.Period{}, api.ErrRange},
		{of(least, 0, 0), of(least, 0, 0), api.Period{}, api.ErrRange}, // 0, if it wrapped
		{of(most, 0, 0), of(1, 0, 0), api.Period{}, api.ErrRange},
	} {
		if p, e := period.Add(c.a, c.b); p != c.want || e != c.e {
			t.Errorf("Add(%v, %v) = %v, %d, want %v, %d", c.a, c.b, p, e, c.want, c.e)
		}
	}
}

func TestAddAll(t *testing.T) {
	all := append(good(), bad()...)
	for _, a := range all {
		for _, b := range append(edges(), bad()...) {
			want, wantE := dueAdd(a, b)
			if p, e := period.Add(a, b); p != want || e != wantE {
				t.Fatalf("Add(%v, %v) = %v, %d, want %v, %d", a, b, p, e, want, wantE)
			}
			if p, e := period.Add(b, a); p != want || e != wantE {
				t.Fatalf("Add(%v, %v) = %v, %d, want %v, %d", b, a, p, e, want, wantE)
			}
		}
	}
}

// 10.1: Neg: field by field, of all that is in range

func TestNeg(t *testing.T) {
	for _, c := range []struct {
		p, want api.Period
		e       api.Errno
	}{
		{api.Period{}, api.Period{}, api.OK},
		{of(1, -2, 3), of(-1, 2, -3), api.OK},
		{of(end, -end, end), of(-end, end, -end), api.OK},
		{of(end+1, 0, 0), api.Period{}, api.ErrRange},
		{of(0, -end-1, 0), api.Period{}, api.ErrRange},
		{of(1, 1, end+1), api.Period{}, api.ErrRange},
		{of(least, 0, 0), api.Period{}, api.ErrRange},
		{of(0, least, 0), api.Period{}, api.ErrRange},
		{of(0, 0, least), api.Period{}, api.ErrRange},
		{of(0, 0, most), api.Period{}, api.ErrRange},
	} {
		if p, e := period.Neg(c.p); p != c.want || e != c.e {
			t.Errorf("Neg(%v) = %v, %d, want %v, %d", c.p, p, e, c.want, c.e)
		}
	}
	for _, p := range append(good(), edges()...) {
		if n, e := period.Neg(p); n != of(-p.Years, -p.Months, -p.Days) || e != api.OK {
			t.Fatalf("Neg(%v) = %v, %d", p, n, e)
		}
	}
	for _, p := range bad() {
		if n, e := period.Neg(p); n != (api.Period{}) || e != api.ErrRange {
			t.Fatalf("Neg(%v) = %v, %d, want ErrRange", p, n, e)
		}
	}
}

// 10.1: Mul: field by field, by any number; what is handed in is asked also where the result would be 0

func TestMul(t *testing.T) {
	for _, c := range []struct {
		p    api.Period
		n    int
		want api.Period
		e    api.Errno
	}{
		{of(0, 0, 500001), 2, api.Period{}, api.ErrRange},
		{of(0, 0, 500000), 2, of(0, 0, end), api.OK},
		{of(0, 500001, 0), 2, api.Period{}, api.ErrRange},
		{of(500001, 0, 0), 2, api.Period{}, api.ErrRange},
		{of(500001, 0, 0), -2, api.Period{}, api.ErrRange},
		{of(-500001, 0, 0), 2, api.Period{}, api.ErrRange},
		{of(500000, -500000, 500000), -2, of(-end, end, -end), api.OK},
		{of(1, -2, 3), 3, of(3, -6, 9), api.OK},
		{of(1, -2, 3), -1, of(-1, 2, -3), api.OK},
		{of(1, -2, 3), 1, of(1, -2, 3), api.OK},
		{of(0, 7, 0), 2, of(0, 14, 0), api.OK},
		{of(end, -end, end), 0, api.Period{}, api.OK},
		{of(1, -1, 1), end, of(end, -end, end), api.OK},
		{of(1, -1, 1), -end, of(-end, end, -end), api.OK},
		{of(1, 0, 0), end + 1, api.Period{}, api.ErrRange},
		{api.Period{}, end + 1, api.Period{}, api.OK},
		{api.Period{}, most, api.Period{}, api.OK},
		{api.Period{}, least, api.Period{}, api.OK},
		{of(0, 0, 1), least, api.Period{}, api.ErrRange},
		{of(0, 0, -1), least, api.Period{}, api.ErrRange},
		{of(0, 0, 5), 1 << 62, api.Period{}, api.ErrRange},
		{of(0, 4, 0), 1 << 62, api.Period{}, api.ErrRange},      // 0, if it wrapped
		{of(3, 0, 0), most/3*2 + 2, api.Period{}, api.ErrRange}, // 2, if it wrapped
		{of(0, 2, 0), -1<<63 + 7, api.Period{}, api.ErrRange},   // 14, if it wrapped
		{of(0, 0, end+1), 0, api.Period{}, api.ErrRange},        // though the result were 0
		{of(least, 0, 0), 0, api.Period{}, api.ErrRange},
		{of(0, most, 0), 0, api.Period{}, api.ErrRange},
		{of(0, -end-1, 0), 1, api.Period{}, api.ErrRange},
		{of(least, 0, 0), -1, api.Period{}, api.ErrRange},
		{of(1<<32, 0, 0), 1 << 32, api.Period{}, api.ErrRange}, // 0, if it wrapped
	} {
		if p, e := period.Mul(c.p, c.n); p != c.want || e != c.e {
			t.Errorf("Mul(%v, %d) = %v, %d, want %v, %d", c.p, c.n, p, e, c.want, c.e)
		}
	}
}

func TestMulAll(t *testing.T) {
	all := append(append(good(), edges()...), bad()...)
	for _, p := range all {
		for _, n := range factors() {
			want, wantE := dueMul(p, n)
			if got, e := period.Mul(p, n); got != want || e != wantE {
				t.Fatalf("Mul(%v, %d) = %v, %d, want %v, %d", p, n, got, e, want, wantE)
			}
		}
	}
}

// 10.1: Balance: the chapter's example, both signs, days as they are, and both ends of the range

func TestBalance(t *testing.T) {
	for _, c := range []struct {
		p, want api.Period
		e       api.Errno
	}{
		{of(1, -13, 5), of(0, -1, 5), api.OK},
		{of(-1, 13, 5), of(0, 1, 5), api.OK},
		{of(1, -11, 0), of(0, 1, 0), api.OK},
		{of(1, -12, -40), of(0, 0, -40), api.OK},
		{of(-1, 12, 40), of(0, 0, 40), api.OK},
		{of(2, -1, 0), of(1, 11, 0), api.OK},
		{of(-2, 1, 0), of(-1, -11, 0), api.OK},
		{of(0, 11, 0), of(0, 11, 0), api.OK},
		{of(0, 12, 0), of(1, 0, 0), api.OK},
		{of(0, 30, 0), of(2, 6, 0), api.OK},
		{of(0, -11, 0), of(0, -11, 0), api.OK},
		{of(0, -12, 0), of(-1, 0, 0), api.OK},
		{of(0, -30, 366), of(-2, -6, 366), api.OK},
		{of(1, 12, 30), of(2, 0, 30), api.OK},
		{of(0, 0, end), of(0, 0, end), api.OK},
		{of(0, 0, -end), of(0, 0, -end), api.OK},
		{of(0, end, 0), of(83333, 4, 0), api.OK},
		{of(0, -end, 0), of(-83333, -4, 0), api.OK},
		{of(end, 11, 1), of(end, 11, 1), api.OK},
		{of(end, 12, 1), api.Period{}, api.ErrRange},
		{of(end-1, 23, 1), of(end, 11, 1), api.OK},
		{of(end-1, 24, 1), api.Period{}, api.ErrRange},
		{of(end, -1, 0), of(end-1, 11, 0), api.OK},
		{of(end, -end, 0), of(916666, 8, 0), api.OK},
		{of(end, end, 0), api.Period{}, api.ErrRange},
		{of(-end, -11, -1), of(-end, -11, -1), api.OK},
		{of(-end, -12, -1), api.Period{}, api.ErrRange},
		{of(1-end, -23, 0), of(-end, -11, 0), api.OK},
		{of(1-end, -24, 0), api.Period{}, api.ErrRange},
		{of(-end, 1, 0), of(1-end, -11, 0), api.OK},
		{of(-end, -end, 0), api.Period{}, api.ErrRange},
		{of(end+1, -12, 0), api.Period{}, api.ErrRange}, // though the result were in range
		{of(-end-1, 12, 0), api.Period{}, api.ErrRange},
		{of(-1, end+1, 0), api.Period{}, api.ErrRange},
		{of(1, -end-1, 0), api.Period{}, api.ErrRange},
		{of(0, 0, end+1), api.Period{}, api.ErrRange},
		{of(0, 0, -end-1), api.Period{}, api.ErrRange},
		{of(1<<62, 0, 0), api.Period{}, api.ErrRange}, // 0 months, if it wrapped
		{of(least, most, 0), api.Period{}, api.ErrRange},
	} {
		if p, e := period.Balance(c.p); p != c.want || e != c.e {
			t.Errorf("Balance(%v) = %v, %d, want %v, %d", c.p, p, e, c.want, c.e)
		}
	}
}

// 10.1: Balance, of all numbers of months within 50 years of 0, counted one by one

func TestBalanceCounted(t *testing.T) {
	want := of(0, 0, 9)
	for whole := 0; whole <= 600; whole++ {
		for years := -60; years <= 60; years++ {
			holdBalance(t, of(years, whole-12*years, 9), want, api.OK)
			holdBalance(t, of(-years, 12*years-whole, -9), of(-want.Years, -want.Months, -want.Days), api.OK)
		}
		want.Months++
		if want.Months == 12 {
			want.Years, want.Months = want.Years+1, 0
		}
	}
}

// 10.1: Balance, about the greatest number of months in range: from 12 times MaxField and 12 on, it has none

func TestBalanceAtTheEnd(t *testing.T) {
	for by := -30; by <= 30; by++ {
		for more := -200; more <= 200; more++ {
			years, months := end+by, more-12*by
			want, e := of(end, more, 7), api.OK
			switch {
			case years > end || more > 11:
				want, e = api.Period{}, api.ErrRange
			case more < 0:
				want = of(end-(11-more)/12, ((more%12)+12)%12, 7)
			}
			holdBalance(t, of(years, months, 7), want, e)
			holdBalance(t, of(-years, -months, -7), of(-want.Years, -want.Months, -want.Days), e)
		}
	}
}

// holdBalance holds what Balance(p) is, and 10.2 of it.
func holdBalance(t *testing.T, p, want api.Period, wantE api.Errno) {
	t.Helper()
	got, e := period.Balance(p)
	if got != want || e != wantE {
		t.Fatalf("Balance(%v) = %v, %d, want %v, %d", p, got, e, want, wantE)
	}
	if e != api.OK {
		return
	}
	if n, m := period.Months(got), period.Months(p); n != m {
		t.Fatalf("Months(%v) = %d, but of its Balance %v %d", p, m, got, n)
	}
	if again, e := period.Balance(got); again != got || e != api.OK {
		t.Fatalf("Balance(%v) = %v, %d, the second time", got, again, e)
	}
}

// 10.1 and 10.2: Balance, by what the chapter says of its answer: one sign, months below 12, days as they are, no change of Months

func TestBalanceAll(t *testing.T) {
	for _, p := range append(good(), edges()...) {
		got, e := period.Balance(p)
		whole := 12*p.Years + p.Months
		if whole >= 12*(end+1) || whole <= -12*(end+1) {
			if got != (api.Period{}) || e != api.ErrRange {
				t.Fatalf("Balance(%v) = %v, %d, want ErrRange", p, got, e)
			}
			continue
		}
		oneSign := got.Years >= 0 && got.Months >= 0 || got.Years <= 0 && got.Months <= 0
		if e != api.OK || 12*got.Years+got.Months != whole || !oneSign || got.Months < -11 || got.Months > 11 || got.Days != p.Days {
			t.Fatalf("Balance(%v) = %v, %d", p, got, e)
		}
		holdBalance(t, p, got, api.OK)
	}
	for _, p := range bad() {
		holdBalance(t, p, api.Period{}, api.ErrRange)
	}
}

// 10.1: Months: no days; also where Balance is out of range; 0 beside Check's error

func TestMonths(t *testing.T) {
	for _, c := range []struct {
		p    api.Period
		want int
	}{
		{api.Period{}, 0},
		{of(2, 3, 0), 27},
		{of(2, 3, 400), 27},
		{of(-2, -3, 400), -27},
		{of(1, -13, 5), -1},
		{of(-1, 13, 5), 1},
		{of(1, -12, 5), 0},
		{of(0, 0, end), 0},
		{of(end, end, 0), 13000000},
		{of(-end, -end, 0), -13000000},
		{of(end, -end, end), 11000000},
		{of(0, end, 0), end},
		{of(end, 0, -end), 12000000},
		{of(end+1, 0, 0), 0},
		{of(end+1, 3, 0), 0},
		{of(3, end+1, 0), 0},
		{of(3, 4, end+1), 0},
		{of(-end-1, 3, 0), 0},
		{of(3, -end-1, 0), 0},
		{of(3, 4, -end-1), 0},
		{of(1<<62, 5, 0), 0}, // 5, if it wrapped
		{of(least, 5, 0), 0},
		{of(0, most, 0), 0},
		{of(2, 3, most), 0},
	} {
		if n := period.Months(c.p); n != c.want {
			t.Errorf("Months(%v) = %d, want %d", c.p, n, c.want)
		}
	}
	for _, p := range append(good(), edges()...) {
		if n := period.Months(p); n != 12*p.Years+p.Months {
			t.Fatalf("Months(%v) = %d", p, n)
		}
	}
	for _, p := range bad() {
		if n := period.Months(p); n != 0 {
			t.Fatalf("Months(%v) = %d, want 0: it is out of range", p, n)
		}
	}
}
