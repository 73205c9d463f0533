package dur_test

// Each test names the promise that it holds (shared/doc/04-dur.md). What the
// numbers should be is told by math/big, beside values that are written out by
// hand.

import (
	"math"
	"math/big"
	"testing"

	"analemma/api"
	"analemma/dur"
	"analemma/wide"
)

const (
	most     = math.MaxInt
	least    = math.MinInt
	all      = math.MaxUint64
	lastNano = 999999999
)

// secs are the range's edges, int's edges, and such as wrap to others in nanoseconds. They rise.
func secs() []int {
	return []int{
		least, least + 1, -1 << 55, -1 << 54, -api.MaxDur - 2, -api.MaxDur - 1, -api.MaxDur, -api.MaxDur + 1,
		api.MinSec, -9223372037, -9223372036, -86400, -7, -2, -1, 0, 1, 2, 7, 86400, 9223372036, 9223372037,
		api.MaxSec, api.MaxDur - 1, api.MaxDur, api.MaxDur + 1, 1 << 54, 1 << 55, most - 1, most,
	}
}

// nanos are such as may be and such as may not. They rise.
func nanos() []int {
	return []int{
		least, least + 1, -1000000001, -1000000000, -lastNano, -2, -1,
		0, 1, 2, 499999999, 500000000, 500000001, lastNano - 1, lastNano,
		1000000000, 1000000001, 2500000000, 1 << 32, most - 1, most,
	}
}

// ints are what durations are multiplied and divided by: 0 is among them.
func ints() []int {
	l := []int{
		least, least + 1, -1000000001, -1000000000, -lastNano, -10, -7, -3, -2, -1,
		0, 1, 2, 3, 7, 10, lastNano, 1000000000, 1000000001, most - 1, most,
	}
	for n := 8; n < 63; n += 3 {
		for by := -1; by <= 1; by++ {
			l = append(l, 1<<n+by, -1<<n+by)
		}
	}
	return append(l, 1<<40, -1<<40, 1<<40+1, -1<<40-1, 1<<24, 1<<23)
}

// pairs are all of secs with all of nanos, rising.
func pairs() []api.Dur {
	var l []api.Dur
	for _, sec := range secs() {
		for _, nano := range nanos() {
			l = append(l, api.Dur{Sec: sec, Nano: nano})
		}
	}
	return l
}

// good are those of pairs that are well made and in range.
func good() []api.Dur {
	var l []api.Dur
	for _, d := range pairs() {
		if dueCheck(d) == api.OK {
			l = append(l, d)
		}
	}
	return l
}

// whole is all of d, in nanoseconds.
func whole(d api.Dur) *big.Int {
	n := new(big.Int).Mul(big.NewInt(int64(d.Sec)), big.NewInt(1e9))
	return n.Add(n, big.NewInt(int64(d.Nano)))
}

// due is the duration of n nanoseconds, or the error that there is none.
func due(n *big.Int) (api.Dur, api.Errno) {
	if n.CmpAbs(whole(api.Dur{Sec: api.MaxDur})) > 0 {
		return api.Dur{}, api.ErrRange
	}
	sec, nano := new(big.Int).DivMod(n, big.NewInt(1e9), new(big.Int))
	return api.Dur{Sec: int(sec.Int64()), Nano: int(nano.Int64())}, api.OK
}

// dueBut is due, where no error of what is handed in comes ahead of it.
func dueBut(ahead api.Errno, n *big.Int) (api.Dur, api.Errno) {
	if ahead != api.OK {
		return api.Dur{}, ahead
	}
	return due(n)
}

func dueCheck(d api.Dur) api.Errno {
	if d.Nano < 0 || d.Nano >= 1e9 {
		return api.ErrBadArg
	}
	_, e := due(whole(d))
	return e
}

// worst is the error of two that has the lesser number.
func worst(a, b api.Errno) api.Errno {
	for _, e := range []api.Errno{api.ErrBadArg, api.ErrRange} {
		if a == e || b == e {
			return e
		}
	}
	return api.OK
}

// down is n by m, rounded down, also where m is below 0.
func down(n *big.Int, m int) *big.Int {
	by := big.NewInt(int64(m))
	quotient, rest := new(big.Int).QuoRem(n, by, new(big.Int))
	if rest.Sign()*by.Sign() < 0 {
		quotient.Sub(quotient, big.NewInt(1))
	}
	return quotient
}

// bits128 is n as a signed number, of which n is one.
func bits128(n *big.Int) api.Wide {
	n = new(big.Int).Mod(n, new(big.Int).Lsh(big.NewInt(1), 128))
	lo := new(big.Int).Mod(n, new(big.Int).Lsh(big.NewInt(1), 64))
	return api.Wide{Hi: new(big.Int).Rsh(n, 64).Uint64(), Lo: lo.Uint64()}
}

func number(t *testing.T, s string) api.Wide {
	t.Helper()
	n, e := wide.Parse(s)
	if e != api.OK {
		t.Fatalf("%s is no number: %d", s, e)
	}
	return n
}

// 4.1: New, of any numbers

func TestNew(t *testing.T) {
	for _, c := range []struct {
		sec, nano int
		d         api.Dur
		e         api.Errno
	}{
		{0, 0, api.Dur{}, api.OK},
		{5, 7, api.Dur{Sec: 5, Nano: 7}, api.OK},
		{-5, 7, api.Dur{Sec: -5, Nano: 7}, api.OK},
		{0, -1, api.Dur{Sec: -1, Nano: lastNano}, api.OK},
		{0, lastNano, api.Dur{Nano: lastNano}, api.OK},
		{0, 1000000000, api.Dur{Sec: 1}, api.OK},
		{0, -lastNano, api.Dur{Sec: -1, Nano: 1}, api.OK},
		{0, -1000000000, api.Dur{Sec: -1}, api.OK},
		{0, -1000000001, api.Dur{Sec: -2, Nano: lastNano}, api.OK},
		{5, 2500000000, api.Dur{Sec: 7, Nano: 500000000}, api.OK},
		{5, -2500000000, api.Dur{Sec: 2, Nano: 500000000}, api.OK},
		{0, most, api.Dur{Sec: 9223372036, Nano: 854775807}, api.OK},
		{0, least, api.Dur{Sec: -9223372037, Nano: 145224192}, api.OK},
		{api.MaxDur, 0, api.Dur{Sec: api.MaxDur}, api.OK},
		{api.MaxDur, 1, api.Dur{}, api.ErrRange},
		{api.MaxDur, -1, api.Dur{Sec: api.MaxDur - 1, Nano: lastNano}, api.OK},
		{api.MaxDur - 1, lastNano, api.Dur{Sec: api.MaxDur - 1, Nano: lastNano}, api.OK},
		{api.MaxDur - 1, 1000000000, api.Dur{Sec: api.MaxDur}, api.OK},
		{api.MaxDur - 1, 1000000001, api.Dur{}, api.ErrRange},
		{api.MaxDur + 1, -1000000000, api.Dur{Sec: api.MaxDur}, api.OK},
		{api.MaxDur + 1, -lastNano, api.Dur{}, api.ErrRange},
		{api.MaxDur + 9223372037, least, api.Dur{}, api.ErrRange},
		{api.MaxDur + 9223372036, least, api.Dur{Sec: api.MaxDur - 1, Nano: 145224192}, api.OK},
		{-api.MaxDur, 0, api.Dur{Sec: -api.MaxDur}, api.OK},
		{-api.MaxDur, -1, api.Dur{}, api.ErrRange},
		{-api.MaxDur, 1, api.Dur{Sec: -api.MaxDur, Nano: 1}, api.OK},
		{-api.MaxDur - 1, lastNano, api.Dur{}, api.ErrRange},
		{-api.MaxDur - 1, 1000000000, api.Dur{Sec: -api.MaxDur}, api.OK},
		{-api.MaxDur - 9223372036, most, api.Dur{Sec: -api.MaxDur, Nano: 854775807}, api.OK},
		{-api.MaxDur - 9223372037, most, api.Dur{}, api.ErrRange},
		{most, 1, api.Dur{}, api.ErrRange},
		{most, 1000000000, api.Dur{}, api.ErrRange},
		{most, most, api.Dur{}, api.ErrRange},
		{least, -1, api.Dur{}, api.ErrRange},
		{least, least, api.Dur{}, api.ErrRange},
		{least, most, api.Dur{}, api.ErrRange},
		{most, least, api.Dur{}, api.ErrRange},
		{1 << 55, 0, api.Dur{}, api.ErrRange}, // 0 nanoseconds, if it wrapped
		{-1 << 55, 7, api.Dur{}, api.ErrRange},
	} {
		if d, e := dur.New(c.sec, c.nano); d != c.d || e != c.e {
			t.Errorf("New(%d, %d) = %v, %d, want %v, %d", c.sec, c.nano, d, e, c.d, c.e)
		}
	}
	for _, p := range pairs() {
		want, wantE := due(whole(p))
		if d, e := dur.New(p.Sec, p.Nano); d != want || e != wantE {
			t.Errorf("New(%d, %d) = %v, %d, want %v, %d", p.Sec, p.Nano, d, e, want, wantE)
		}
	}
}

// 4.1: Check; ErrBadArg counts ahead of ErrRange

func TestCheck(t *testing.T) {
	for _, c := range []struct {
		d api.Dur
		e api.Errno
	}{
		{api.Dur{}, api.OK},
		{api.Dur{Nano: lastNano}, api.OK},
		{api.Dur{Nano: 1000000000}, api.ErrBadArg},
		{api.Dur{Nano: -1}, api.ErrBadArg},
		{api.Dur{Nano: most}, api.ErrBadArg},
		{api.Dur{Nano: least}, api.ErrBadArg},
		{api.Dur{Sec: api.MaxDur - 1, Nano: lastNano}, api.OK},
		{api.Dur{Sec: api.MaxDur}, api.OK},
		{api.Dur{Sec: api.MaxDur, Nano: 1}, api.ErrRange},
		{api.Dur{Sec: api.MaxDur, Nano: lastNano}, api.ErrRange},
		{api.Dur{Sec: api.MaxDur, Nano: -1}, api.ErrBadArg},
		{api.Dur{Sec: api.MaxDur + 1}, api.ErrRange},
		{api.Dur{Sec: api.MaxDur + 1, Nano: -1}, api.ErrBadArg},
		{api.Dur{Sec: api.MaxDur + 1, Nano: 1000000000}, api.ErrBadArg},
		{api.Dur{Sec: -api.MaxDur}, api.OK},
		{api.Dur{Sec: -api.MaxDur, Nano: lastNano}, api.OK},
		{api.Dur{Sec: -api.MaxDur - 1, Nano: lastNano}, api.ErrRange},
		{api.Dur{Sec: -api.MaxDur - 1, Nano: 1000000000}, api.ErrBadArg},
		{api.Dur{Sec: most}, api.ErrRange},
		{api.Dur{Sec: least}, api.ErrRange},
		{api.Dur{Sec: least, Nano: least}, api.ErrBadArg},
	} {
		if e := dur.Check(c.d); e != c.e {
			t.Errorf("Check(%v) = %d, want %d", c.d, e, c.e)
		}
	}
	for _, d := range pairs() {
		if e := dur.Check(d); e != dueCheck(d) {
			t.Errorf("Check(%v) = %d, want %d", d, e, dueCheck(d))
		}
	}
}

// 4.1: Cmp, by Sec and then by Nano, of any numbers

func TestCmp(t *testing.T) {
	for _, c := range []struct {
		a, b api.Dur
		want int
	}{
		{api.Dur{}, api.Dur{}, 0},
		{api.Dur{Sec: 3, Nano: 4}, api.Dur{Sec: 3, Nano: 4}, 0},
		{api.Dur{Sec: 3, Nano: 4}, api.Dur{Sec: 3, Nano: 5}, -1},
		{api.Dur{Sec: 3, Nano: 9}, api.Dur{Sec: 4, Nano: 1}, -1},
		{api.Dur{Sec: -1, Nano: lastNano}, api.Dur{}, -1},
		{api.Dur{Sec: -1, Nano: lastNano}, api.Dur{Sec: -1}, 1},
		{api.Dur{Sec: least}, api.Dur{Sec: most}, -1}, // no difference: it wraps
		{api.Dur{Nano: least}, api.Dur{Nano: most}, -1},
		{api.Dur{Sec: 1, Nano: least}, api.Dur{Nano: most}, 1},
		{api.Dur{Nano: 1000000000}, api.Dur{Sec: 1}, -1}, // not by what they come to
		{api.Dur{Nano: 2000000000}, api.Dur{Sec: 1}, -1},
		{api.Dur{Sec: 1, Nano: -1}, api.Dur{Nano: lastNano}, 1},
		{api.Dur{Sec: api.MaxDur}, api.Dur{Sec: api.MaxDur + 1}, -1},
	} {
		if n := dur.Cmp(c.a, c.b); n != c.want {
			t.Errorf("Cmp(%v, %v) = %d, want %d", c.a, c.b, n, c.want)
		}
		if n := dur.Cmp(c.b, c.a); n != -c.want {
			t.Errorf("Cmp(%v, %v) = %d, want %d", c.b, c.a, n, -c.want)
		}
	}
	l := pairs() // rising, by Sec and then by Nano
	for n, a := range l {
		for m, b := range l {
			want := big.NewInt(int64(n)).Cmp(big.NewInt(int64(m)))
			if got := dur.Cmp(a, b); got != want {
				t.Fatalf("Cmp(%v, %v) = %d, want %d", a, b, got, want)
			}
		}
	}
}

// a sum of durations, and what must be answered of it
type sum struct {
	a, b, want api.Dur
	e          api.Errno
}

func holdSums(t *testing.T, name string, call func(a, b api.Dur) (api.Dur, api.Errno), l []sum) {
	t.Helper()
	for _, c := range l {
		if got, e := call(c.a, c.b); got != c.want || e != c.e {
			t.Errorf("%s(%v, %v) = %v, %d, want %v, %d", name, c.a, c.b, got, e, c.want, c.e)
		}
	}
}

// 4.1: Add

func TestAdd(t *testing.T) {
	first, last := api.Dur{Sec: -api.MaxDur}, api.Dur{Sec: api.MaxDur}
	holdSums(t, "Add", dur.Add, []sum{
		{api.Dur{}, api.Dur{}, api.Dur{}, api.OK},
		{api.Dur{Sec: 5, Nano: 7}, api.Dur{Sec: 3, Nano: 2}, api.Dur{Sec: 8, Nano: 9}, api.OK},
		{api.Dur{Nano: lastNano}, api.Dur{Nano: 1}, api.Dur{Sec: 1}, api.OK},
		{api.Dur{Nano: lastNano}, api.Dur{Nano: lastNano}, api.Dur{Sec: 1, Nano: lastNano - 1}, api.OK},
		{api.Dur{}, api.Dur{Sec: -1, Nano: lastNano}, api.Dur{Sec: -1, Nano: lastNano}, api.OK},
		{api.Dur{Nano: 1}, api.Dur{Sec: -1, Nano: lastNano}, api.Dur{}, api.OK},
		{api.Dur{Sec: -3, Nano: 5}, api.Dur{Sec: -4}, api.Dur{Sec: -7, Nano: 5}, api.OK},
		{last, api.Dur{}, last, api.OK},
		{last, api.Dur{Nano: 1}, api.Dur{}, api.ErrRange},
		{last, api.Dur{Sec: 1}, api.Dur{}, api.ErrRange},
		{api.Dur{Sec: api.MaxDur - 1, Nano: lastNano}, api.Dur{Nano: 1}, last, api.OK},
		{api.Dur{Sec: api.MaxDur - 1, Nano: lastNano}, api.Dur{Nano: 2}, api.Dur{}, api.ErrRange},
		{first, api.Dur{}, first, api.OK},
		{first, api.Dur{Sec: -1, Nano: lastNano}, api.Dur{}, api.ErrRange},
		{api.Dur{Sec: -api.MaxDur, Nano: 1}, api.Dur{Sec: -1, Nano: lastNano}, first, api.OK},
		{first, last, api.Dur{}, api.OK},
		{last, last, api.Dur{}, api.ErrRange},
		{first, first, api.Dur{}, api.ErrRange},
		{api.Dur{Sec: api.MaxDur + 1}, api.Dur{Sec: -1}, api.Dur{}, api.ErrRange}, // though the sum is in range
		{api.Dur{Sec: -1}, api.Dur{Sec: api.MaxDur + 1}, api.Dur{}, api.ErrRange},
		{api.Dur{Sec: api.MaxDur, Nano: 1}, api.Dur{Sec: -1, Nano: lastNano}, api.Dur{}, api.ErrRange},
		{api.Dur{Sec: -api.MaxDur - 1, Nano: lastNano}, api.Dur{Nano: 1}, api.Dur{}, api.ErrRange},
		{api.Dur{Nano: 1}, api.Dur{Sec: -api.MaxDur - 1, Nano: lastNano}, api.Dur{}, api.ErrRange},
		{api.Dur{Sec: api.MaxDur + 1}, api.Dur{Sec: -api.MaxDur - 1}, api.Dur{}, api.ErrRange},
		{api.Dur{Sec: most}, api.Dur{Sec: least}, api.Dur{}, api.ErrRange},
		{api.Dur{Sec: least}, api.Dur{Sec: least}, api.Dur{}, api.ErrRange}, // 0, if it wrapped
		{api.Dur{Sec: most}, api.Dur{Sec: most}, api.Dur{}, api.ErrRange},
	})
}

// 4.1: Sub

func TestSub(t *testing.T) {
	first, last := api.Dur{Sec: -api.MaxDur}, api.Dur{Sec: api.MaxDur}
	holdSums(t, "Sub", dur.Sub, []sum{
		{api.Dur{}, api.Dur{}, api.Dur{}, api.OK},
		{api.Dur{Sec: 8, Nano: 9}, api.Dur{Sec: 5, Nano: 7}, api.Dur{Sec: 3, Nano: 2}, api.OK},
		{api.Dur{Sec: 5, Nano: 7}, api.Dur{Sec: 8, Nano: 9}, api.Dur{Sec: -4, Nano: lastNano - 1}, api.OK},
		{api.Dur{}, api.Dur{Nano: 1}, api.Dur{Sec: -1, Nano: lastNano}, api.OK},
		{api.Dur{Sec: 1}, api.Dur{Nano: lastNano}, api.Dur{Nano: 1}, api.OK},
		{api.Dur{Nano: lastNano}, api.Dur{Sec: -1, Nano: 1}, api.Dur{Sec: 1, Nano: lastNano - 1}, api.OK},
		{api.Dur{Sec: -3}, api.Dur{Sec: -1}, api.Dur{Sec: -2}, api.OK},
		{last, last, api.Dur{}, api.OK},
		{first, first, api.Dur{}, api.OK},
		{api.Dur{}, first, last, api.OK},
		{api.Dur{}, last, first, api.OK},
		{last, first, api.Dur{}, api.ErrRange},
		{first, last, api.Dur{}, api.ErrRange},
		{last, api.Dur{Sec: -1, Nano: lastNano}, api.Dur{}, api.ErrRange},
		{api.Dur{Sec: api.MaxDur - 1, Nano: lastNano}, api.Dur{Sec: -1, Nano: lastNano}, last, api.OK},
		{first, api.Dur{Nano: 1}, api.Dur{}, api.ErrRange},
		{api.Dur{Sec: -api.MaxDur, Nano: 1}, api.Dur{Nano: 1}, first, api.OK},
		{api.Dur{Sec: api.MaxDur + 1}, api.Dur{Sec: 1}, api.Dur{}, api.ErrRange}, // though the difference is in range
		{api.Dur{Sec: 1}, api.Dur{Sec: api.MaxDur + 1}, api.Dur{}, api.ErrRange},
		{api.Dur{Sec: -1}, api.Dur{Sec: -api.MaxDur - 1, Nano: lastNano}, api.Dur{}, api.ErrRange},
		{api.Dur{Sec: api.MaxDur, Nano: 1}, api.Dur{Nano: 1}, api.Dur{}, api.ErrRange},
		{api.Dur{Sec: most}, api.Dur{Sec: most}, api.Dur{}, api.ErrRange},
		{api.Dur{Sec: least}, api.Dur{Sec: least}, api.Dur{}, api.ErrRange},
		{api.Dur{}, api.Dur{Sec: least}, api.Dur{}, api.ErrRange},
	})
}

// 4.1: Add, Sub: all pairs

func TestSumsOfPairs(t *testing.T) {
	l := pairs()
	wholes, checks := make([]*big.Int, len(l)), make([]api.Errno, len(l))
	for n, d := range l {
		wholes[n], checks[n] = whole(d), dueCheck(d)
	}
	z := new(big.Int)
	for n, a := range l {
		for m, b := range l {
			ahead := worst(checks[n], checks[m])
			want, wantE := dueBut(ahead, z.Add(wholes[n], wholes[m]))
			if got, e := dur.Add(a, b); got != want || e != wantE {
				t.Fatalf("Add(%v, %v) = %v, %d, want %v, %d", a, b, got, e, want, wantE)
			}
			want, wantE = dueBut(ahead, z.Sub(wholes[n], wholes[m]))
			if got, e := dur.Sub(a, b); got != want || e != wantE {
				t.Fatalf("Sub(%v, %v) = %v, %d, want %v, %d", a, b, got, e, want, wantE)
			}
		}
	}
}

// 4.1: Neg

func TestNeg(t *testing.T) {
	for _, c := range []struct {
		d, want api.Dur
		e       api.Errno
	}{
		{api.Dur{}, api.Dur{}, api.OK},
		{api.Dur{Nano: 1}, api.Dur{Sec: -1, Nano: lastNano}, api.OK},
		{api.Dur{Sec: -1, Nano: lastNano}, api.Dur{Nano: 1}, api.OK},
		{api.Dur{Sec: 5}, api.Dur{Sec: -5}, api.OK},
		{api.Dur{Sec: -5}, api.Dur{Sec: 5}, api.OK},
		{api.Dur{Sec: 5, Nano: 7}, api.Dur{Sec: -6, Nano: 999999993}, api.OK},
		{api.Dur{Sec: api.MaxDur}, api.Dur{Sec: -api.MaxDur}, api.OK},
		{api.Dur{Sec: -api.MaxDur}, api.Dur{Sec: api.MaxDur}, api.OK},
		{api.Dur{Sec: -api.MaxDur, Nano: 1}, api.Dur{Sec: api.MaxDur - 1, Nano: lastNano}, api.OK},
		{api.Dur{Sec: api.MaxDur, Nano: 1}, api.Dur{}, api.ErrRange},
		{api.Dur{Sec: -api.MaxDur - 1, Nano: lastNano}, api.Dur{}, api.ErrRange},
		{api.Dur{Sec: least}, api.Dur{}, api.ErrRange},
		{api.Dur{Sec: most}, api.Dur{}, api.ErrRange},
		{api.Dur{Nano: -1}, api.Dur{}, api.ErrBadArg},
		{api.Dur{Nano: 1000000000}, api.Dur{}, api.ErrBadArg},
		{api.Dur{Sec: most, Nano: most}, api.Dur{}, api.ErrBadArg},
		{api.Dur{Sec: least, Nano: least}, api.Dur{}, api.ErrBadArg},
	} {
		if got, e := dur.Neg(c.d); got != c.want || e != c.e {
			t.Errorf("Neg(%v) = %v, %d, want %v, %d", c.d, got, e, c.want, c.e)
		}
	}
	for _, d := range pairs() {
		want, wantE := dueBut(dueCheck(d), new(big.Int).Neg(whole(d)))
		if got, e := dur.Neg(d); got != want || e != wantE {
			t.Errorf("Neg(%v) = %v, %d, want %v, %d", d, got, e, want, wantE)
		}
	}
}

// a duration with a number, and what must be answered of them
type scaled struct {
	d    api.Dur
	n    int
	want api.Dur
	e    api.Errno
}

func holdScaled(t *testing.T, name string, call func(d api.Dur, n int) (api.Dur, api.Errno), l []scaled) {
	t.Helper()
	for _, c := range l {
		if got, e := call(c.d, c.n); got != c.want || e != c.e {
			t.Errorf("%s(%v, %d) = %v, %d, want %v, %d", name, c.d, c.n, got, e, c.want, c.e)
		}
	}
}

// 4.1: Mul, exact, however great

func TestMul(t *testing.T) {
	first, last := api.Dur{Sec: -api.MaxDur}, api.Dur{Sec: api.MaxDur}
	power := api.Dur{Sec: 590295810358, Nano: 705651712} // 2^69 nanoseconds
	holdScaled(t, "Mul", dur.Mul, []scaled{
		{api.Dur{Nano: 500000000}, 3, api.Dur{Sec: 1, Nano: 500000000}, api.OK},
		{api.Dur{Nano: 500000000}, -3, api.Dur{Sec: -2, Nano: 500000000}, api.OK},
		{api.Dur{Sec: -1, Nano: 500000000}, 3, api.Dur{Sec: -2, Nano: 500000000}, api.OK},
		{api.Dur{Sec: -1, Nano: 500000000}, -3, api.Dur{Sec: 1, Nano: 500000000}, api.OK},
		{api.Dur{Sec: 5, Nano: 7}, 1, api.Dur{Sec: 5, Nano: 7}, api.OK},
		{api.Dur{Sec: 5, Nano: 7}, 0, api.Dur{}, api.OK},
		{api.Dur{}, most, api.Dur{}, api.OK},
		{api.Dur{}, least, api.Dur{}, api.OK},
		{api.Dur{Nano: 1}, most, api.Dur{Sec: 9223372036, Nano: 854775807}, api.OK},
		{api.Dur{Nano: 1}, least, api.Dur{Sec: -9223372037, Nano: 145224192}, api.OK},
		{api.Dur{Sec: -1, Nano: lastNano}, least, api.Dur{Sec: 9223372036, Nano: 854775808}, api.OK},
		{api.Dur{Sec: -1, Nano: lastNano}, most, api.Dur{Sec: -9223372037, Nano: 145224193}, api.OK},
		{last, 1, last, api.OK},
		{last, -1, first, api.OK},
		{first, -1, last, api.OK},
		{first, 0, api.Dur{}, api.OK},
		{last, 2, api.Dur{}, api.ErrRange},
		{api.Dur{Sec: 1}, api.MaxDur, last, api.OK},
		{api.Dur{Sec: 1}, -api.MaxDur, first, api.OK},
		{api.Dur{Sec: 1}, api.MaxDur + 1, api.Dur{}, api.ErrRange},
		{api.Dur{Sec: 1}, -api.MaxDur - 1, api.Dur{}, api.ErrRange},
		{api.Dur{Nano: 1000}, 1099511627776000000, last, api.OK},
		{api.Dur{Nano: 1000}, 1099511627776000001, api.Dur{}, api.ErrRange},
		{api.Dur{Nano: 1000}, -1099511627776000000, first, api.OK},
		{api.Dur{Nano: 1000}, -1099511627776000001, api.Dur{}, api.ErrRange},
		{last, 1 << 62, api.Dur{}, api.ErrRange},
		{last, 1 << 24, api.Dur{}, api.ErrRange},   // 2^64 seconds, which wrap to 0
		{first, 1 << 23, api.Dur{}, api.ErrRange},  // -2^63 seconds
		{power, 1 << 59, api.Dur{}, api.ErrRange},  // 2^128 nanoseconds, which wrap to 0
		{power, -1 << 59, api.Dur{}, api.ErrRange}, // -2^128
		{power, 1 << 58, api.Dur{}, api.ErrRange},  // 2^127, which is -2^127, if it wrapped
		{power, -1 << 58, api.Dur{}, api.ErrRange},
		{last, most, api.Dur{}, api.ErrRange},
		{last, least, api.Dur{}, api.ErrRange},
		{first, most, api.Dur{}, api.ErrRange},
		{first, least, api.Dur{}, api.ErrRange},
		{api.Dur{Sec: api.MaxDur, Nano: 1}, 0, api.Dur{}, api.ErrRange}, // though the product is in range
		{api.Dur{Sec: -api.MaxDur - 1, Nano: lastNano}, 0, api.Dur{}, api.ErrRange},
		{api.Dur{Sec: most}, 0, api.Dur{}, api.ErrRange},
		{api.Dur{Sec: 1 << 55}, 2, api.Dur{}, api.ErrRange},
		{api.Dur{Nano: -1}, 0, api.Dur{}, api.ErrBadArg},
		{api.Dur{Nano: 1000000000}, 1, api.Dur{}, api.ErrBadArg},
		{api.Dur{Sec: most, Nano: least}, most, api.Dur{}, api.ErrBadArg},
	})
}

// 4.1: Div, nanoseconds, rounded down; ErrBadArg by 0, ahead of ErrRange

func TestDiv(t *testing.T) {
	first, last := api.Dur{Sec: -api.MaxDur}, api.Dur{Sec: api.MaxDur}
	holdScaled(t, "Div", dur.Div, []scaled{
		{api.Dur{Sec: -1, Nano: lastNano}, 2, api.Dur{Sec: -1, Nano: lastNano}, api.OK}, // -1 ns
		{api.Dur{Sec: -1, Nano: lastNano}, -2, api.Dur{}, api.OK},
		{api.Dur{Nano: 1}, 2, api.Dur{}, api.OK},
		{api.Dur{Nano: 1}, -2, api.Dur{Sec: -1, Nano: lastNano}, api.OK},
		{api.Dur{Sec: 7}, 2, api.Dur{Sec: 3, Nano: 500000000}, api.OK},
		{api.Dur{Sec: 7}, -2, api.Dur{Sec: -4, Nano: 500000000}, api.OK},
		{api.Dur{Sec: -7}, 2, api.Dur{Sec: -4, Nano: 500000000}, api.OK},
		{api.Dur{Sec: -7}, -2, api.Dur{Sec: 3, Nano: 500000000}, api.OK},
		{api.Dur{Sec: 1}, 3, api.Dur{Nano: 333333333}, api.OK},
		{api.Dur{Sec: 2}, 3, api.Dur{Nano: 666666666}, api.OK},
		{api.Dur{Sec: -1}, 3, api.Dur{Sec: -1, Nano: 666666666}, api.OK},
		{api.Dur{Sec: 1}, -3, api.Dur{Sec: -1, Nano: 666666666}, api.OK},
		{api.Dur{Nano: 6}, 3, api.Dur{Nano: 2}, api.OK},
		{api.Dur{Nano: 6}, -3, api.Dur{Sec: -1, Nano: 999999998}, api.OK},
		{api.Dur{}, 5, api.Dur{}, api.OK},
		{api.Dur{}, -5, api.Dur{}, api.OK},
		{api.Dur{}, least, api.Dur{}, api.OK},
		{last, 1, last, api.OK},
		{last, -1, first, api.OK},
		{first, 1, first, api.OK},
		{first, -1, last, api.OK},
		{last, 1 << 40, api.Dur{Sec: 1}, api.OK},
		{last, most, api.Dur{Nano: 119}, api.OK},
		{last, least, api.Dur{Sec: -1, Nano: 999999880}, api.OK}, // -119.2.. ns
		{first, most, api.Dur{Sec: -1, Nano: 999999880}, api.OK},
		{first, least, api.Dur{Nano: 119}, api.OK},
		{api.Dur{Nano: 1}, least, api.Dur{Sec: -1, Nano: lastNano}, api.OK},
		{api.Dur{Sec: -1, Nano: lastNano}, least, api.Dur{}, api.OK},
		{api.Dur{Sec: 9223372036, Nano: 854775808}, least, api.Dur{Sec: -1, Nano: lastNano}, api.OK}, // 2^63 ns
		{api.Dur{Sec: 9223372036, Nano: 854775809}, least, api.Dur{Sec: -1, Nano: 999999998}, api.OK},
		{api.Dur{Sec: 9223372036, Nano: 854775806}, most, api.Dur{}, api.OK},
		{api.Dur{Sec: 9223372036, Nano: 854775807}, most, api.Dur{Nano: 1}, api.OK},
		{api.Dur{Sec: 5}, 0, api.Dur{}, api.ErrBadArg},
		{api.Dur{}, 0, api.Dur{}, api.ErrBadArg},
		{api.Dur{Sec: api.MaxDur + 1}, 0, api.Dur{}, api.ErrBadArg},
		{api.Dur{Nano: -1}, 0, api.Dur{}, api.ErrBadArg},
		{api.Dur{Nano: -1}, 1, api.Dur{}, api.ErrBadArg},
		{api.Dur{Sec: least, Nano: 1000000000}, 1, api.Dur{}, api.ErrBadArg},
		{api.Dur{Sec: api.MaxDur, Nano: 1}, 2, api.Dur{}, api.ErrRange}, // though the quotient is in range
		{api.Dur{Sec: -api.MaxDur - 1, Nano: lastNano}, 2, api.Dur{}, api.ErrRange},
		{api.Dur{Sec: most}, most, api.Dur{}, api.ErrRange},
		{api.Dur{Sec: least}, least, api.Dur{}, api.ErrRange},
	})
}

// 4.1: Mul, Div: all pairs with all ints

func TestScaledOfPairs(t *testing.T) {
	for _, d := range pairs() {
		ahead := dueCheck(d)
		nanos := whole(d)
		for _, n := range ints() {
			want, wantE := dueBut(ahead, new(big.Int).Mul(nanos, big.NewInt(int64(n))))
			if got, e := dur.Mul(d, n); got != want || e != wantE {
				t.Fatalf("Mul(%v, %d) = %v, %d, want %v, %d", d, n, got, e, want, wantE)
			}
			want, wantE = api.Dur{}, api.ErrBadArg
			if n != 0 {
				want, wantE = dueBut(ahead, down(nanos, n))
			}
			if got, e := dur.Div(d, n); got != want || e != wantE {
				t.Fatalf("Div(%v, %d) = %v, %d, want %v, %d", d, n, got, e, want, wantE)
			}
		}
	}
}

// 4.1: Mul: the greatest number by which a duration stays in range, and the next one

func TestMulAtTheEnds(t *testing.T) {
	end := whole(api.Dur{Sec: api.MaxDur})
	for _, d := range good() {
		nanos := whole(d)
		if nanos.Sign() == 0 {
			continue
		}
		times := new(big.Int).Quo(end, new(big.Int).Abs(nanos))
		if !times.IsInt64() || times.Int64() == most {
			continue
		}
		for _, sign := range []int{1, -1} {
			n := sign * int(times.Int64())
			want, _ := due(new(big.Int).Mul(nanos, big.NewInt(int64(n))))
			if got, e := dur.Mul(d, n); got != want || e != api.OK {
				t.Errorf("Mul(%v, %d) = %v, %d, want %v", d, n, got, e, want)
			}
			if got, e := dur.Mul(d, n+sign); got != (api.Dur{}) || e != api.ErrRange {
				t.Errorf("Mul(%v, %d) = %v, %d, want ErrRange", d, n+sign, got, e)
			}
		}
	}
}

// 4.1: what is not well made is ErrBadArg, on either side, ahead of ErrRange

func TestNotWellMade(t *testing.T) {
	for _, nano := range []int{least, -1, 1000000000, most} {
		for _, far := range []int{0, api.MaxDur, api.MaxDur + 1, -api.MaxDur - 1, most, least} {
			bad, other := api.Dur{Sec: 1, Nano: nano}, api.Dur{Sec: far}
			for _, c := range []sum{{a: bad, b: other}, {a: other, b: bad}, {a: bad, b: bad}} {
				if got, e := dur.Add(c.a, c.b); got != (api.Dur{}) || e != api.ErrBadArg {
					t.Errorf("Add(%v, %v) = %v, %d, want ErrBadArg", c.a, c.b, got, e)
				}
				if got, e := dur.Sub(c.a, c.b); got != (api.Dur{}) || e != api.ErrBadArg {
					t.Errorf("Sub(%v, %v) = %v, %d, want ErrBadArg", c.a, c.b, got, e)
				}
			}
		}
	}
}

// 4.1: Nanos, with Check's error

func TestNanos(t *testing.T) {
	for _, c := range []struct {
		d    api.Dur
		want string
	}{
		{api.Dur{}, "0"},
		{api.Dur{Nano: 1}, "1"},
		{api.Dur{Sec: 7, Nano: 500000000}, "7500000000"},
		{api.Dur{Sec: -1, Nano: lastNano}, "-1"},
		{api.Dur{Sec: -1}, "-1000000000"},
		{api.Dur{Sec: 9223372036, Nano: 854775808}, "9223372036854775808"},
		{api.Dur{Sec: -9223372037, Nano: 145224191}, "-9223372036854775809"},
		{api.Dur{Sec: api.MaxDur}, "1099511627776000000000"},
		{api.Dur{Sec: -api.MaxDur}, "-1099511627776000000000"},
		{api.Dur{Sec: -api.MaxDur, Nano: 1}, "-1099511627775999999999"},
	} {
		if n, e := dur.Nanos(c.d); wide.Text(n) != c.want || e != api.OK {
			t.Errorf("Nanos(%v) = %s, %d, want %s", c.d, wide.Text(n), e, c.want)
		}
	}
	if n, _ := dur.Nanos(api.Dur{Sec: -1, Nano: lastNano}); n != (api.Wide{Hi: all, Lo: all}) {
		t.Errorf("Nanos of -1 ns = %v", n)
	}
	for _, d := range pairs() {
		var want api.Wide
		wantE := dueCheck(d)
		if wantE == api.OK {
			want = bits128(whole(d))
		}
		if n, e := dur.Nanos(d); n != want || e != wantE {
			t.Errorf("Nanos(%v) = %v, %d, want %v, %d", d, n, e, want, wantE)
		}
	}
}

// 4.1: OfNanos

func TestOfNanos(t *testing.T) {
	for _, c := range []struct {
		n    string
		want api.Dur
		e    api.Errno
	}{
		{"0", api.Dur{}, api.OK},
		{"1", api.Dur{Nano: 1}, api.OK},
		{"-1", api.Dur{Sec: -1, Nano: lastNano}, api.OK},
		{"999999999", api.Dur{Nano: lastNano}, api.OK},
		{"1000000000", api.Dur{Sec: 1}, api.OK},
		{"-999999999", api.Dur{Sec: -1, Nano: 1}, api.OK},
		{"-1000000000", api.Dur{Sec: -1}, api.OK},
		{"-1000000001", api.Dur{Sec: -2, Nano: lastNano}, api.OK},
		{"18446744073709551616", api.Dur{Sec: 18446744073, Nano: 709551616}, api.OK},
		{"-18446744073709551616", api.Dur{Sec: -18446744074, Nano: 290448384}, api.OK},
		{"1099511627776000000000", api.Dur{Sec: api.MaxDur}, api.OK},
		{"1099511627776000000001", api.Dur{}, api.ErrRange},
		{"1099511627775999999999", api.Dur{Sec: api.MaxDur - 1, Nano: lastNano}, api.OK},
		{"-1099511627776000000000", api.Dur{Sec: -api.MaxDur}, api.OK},
		{"-1099511627776000000001", api.Dur{}, api.ErrRange},
		{"-1099511627775999999999", api.Dur{Sec: -api.MaxDur, Nano: 1}, api.OK},
		{"18446744073709551616000000000", api.Dur{}, api.ErrRange}, // 2^64 seconds, which wrap to 0
		{"-18446744073709551616000000000", api.Dur{}, api.ErrRange},
		{"9223372036854775808000000000", api.Dur{}, api.ErrRange}, // 2^63 seconds
		{"-9223372036854775808000000000", api.Dur{}, api.ErrRange},
		{"170141183460469231731687303715884105727", api.Dur{}, api.ErrRange},
		{"-170141183460469231731687303715884105728", api.Dur{}, api.ErrRange},
	} {
		if d, e := dur.OfNanos(number(t, c.n)); d != c.want || e != c.e {
			t.Errorf("OfNanos(%s) = %v, %d, want %v, %d", c.n, d, e, c.want, c.e)
		}
	}
}

// signed numbers of all sizes, each with its neighbours, and the range's edges with theirs
func TestOfNanosOfAllSizes(t *testing.T) {
	l := []*big.Int{whole(api.Dur{Sec: -api.MaxDur}), whole(api.Dur{Sec: api.MaxDur}), new(big.Int)}
	for n := range uint(127) {
		power := new(big.Int).Lsh(big.NewInt(1), n)
		near := 1 << min(n, 62)
		l = append(l, power, new(big.Int).Neg(power), whole(api.Dur{Sec: near}), whole(api.Dur{Sec: -near}))
	}
	for _, middle := range l {
		for by := int64(-2); by <= 2; by++ {
			n := new(big.Int).Add(middle, big.NewInt(by))
			want, wantE := due(n)
			if d, e := dur.OfNanos(bits128(n)); d != want || e != wantE {
				t.Errorf("OfNanos(%v) = %v, %d, want %v, %d", n, d, e, want, wantE)
			}
		}
	}
}

// 4.2: Sub of what Add told, where that is in range; OfNanos of what Nanos told; Neg of what Neg told

func TestThereAndBack(t *testing.T) {
	for _, a := range good() {
		n, e := dur.Nanos(a)
		if d, f := dur.OfNanos(n); d != a || e != api.OK || f != api.OK {
			t.Errorf("OfNanos(Nanos(%v)) = %v, %d, %d", a, d, e, f)
		}
		turned, e := dur.Neg(a)
		if d, f := dur.Neg(turned); d != a || e != api.OK || f != api.OK {
			t.Errorf("Neg(Neg(%v)) = %v, %d, %d", a, d, e, f)
		}
		for _, b := range good() {
			both, e := dur.Add(a, b)
			if e == api.ErrRange {
				continue
			}
			if d, f := dur.Sub(both, b); d != a || e != api.OK || f != api.OK {
				t.Fatalf("Sub(Add(%v, %v), %v) = %v, %d, %d", a, b, b, d, e, f)
			}
		}
	}
}
