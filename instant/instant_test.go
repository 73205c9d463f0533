package instant_test

// Each test names the promise that it holds (shared/doc/03-instant.md). What the
// numbers should be is told by math/big, beside values that are written out by
// hand.

import (
	"math"
	"math/big"
	"testing"

	"analemma/api"
	"analemma/instant"
	"analemma/wide"
)

const (
	most     = math.MaxInt
	least    = math.MinInt
	all      = math.MaxUint64
	lastNano = 999999999
)

// secs are the range's edges, int's edges, and such as wrap to others in nanoseconds.
func secs() []int {
	return []int{
		least, least + 1, -1 << 55, -1 << 54, -api.MaxDur - 1, -api.MaxDur,
		api.MinSec - 1, api.MinSec, api.MinSec + 1, -62135596800, -9223372037, -9223372036,
		-86400, -2, -1, 0, 1, 2, 59, 86400, 1096588800, 9223372036, 9223372037,
		api.MaxSec - 1, api.MaxSec, api.MaxSec + 1,
		api.MaxDur - 1, api.MaxDur, api.MaxDur + 1, 1 << 54, 1 << 55, most - 1, most,
	}
}

// nanos are such as may be and such as may not.
func nanos() []int {
	return []int{
		least, least + 1, -1000000001, -1000000000, -lastNano, -2, -1,
		0, 1, 2, 499999999, 500000000, 500000001, lastNano - 1, lastNano,
		1000000000, 1000000001, 2500000000, 1 << 32, most - 1, most,
	}
}

// pairs are all of secs with all of nanos.
func pairs() []api.Instant {
	var l []api.Instant
	for _, sec := range secs() {
		for _, nano := range nanos() {
			l = append(l, api.Instant{Sec: sec, Nano: nano})
		}
	}
	return l
}

// good are those of pairs that are well made and in range.
func good() []api.Instant {
	var l []api.Instant
	for _, i := range pairs() {
		if dueCheck(i) == api.OK {
			l = append(l, i)
		}
	}
	return l
}

// whole is all of sec and nano, in nanoseconds.
func whole(sec, nano int) *big.Int {
	n := new(big.Int).Mul(big.NewInt(int64(sec)), big.NewInt(1e9))
	return n.Add(n, big.NewInt(int64(nano)))
}

// parts are n's seconds, rounded down, and what is left.
func parts(n *big.Int) (*big.Int, int) {
	sec, nano := new(big.Int).DivMod(n, big.NewInt(1e9), new(big.Int))
	return sec, int(nano.Int64())
}

// due is the instant at n nanoseconds, or the error that there is none.
func due(n *big.Int) (api.Instant, api.Errno) {
	if n.Cmp(whole(api.MinSec, 0)) < 0 || n.Cmp(whole(api.MaxSec, lastNano)) > 0 {
		return api.Instant{}, api.ErrRange
	}
	sec, nano := parts(n)
	return api.Instant{Sec: int(sec.Int64()), Nano: nano}, api.OK
}

func dueCheck(i api.Instant) api.Errno {
	if i.Nano < 0 || i.Nano >= 1e9 {
		return api.ErrBadArg
	}
	_, e := due(whole(i.Sec, i.Nano))
	return e
}

func dueCheckDur(d api.Dur) api.Errno {
	if d.Nano < 0 || d.Nano >= 1e9 {
		return api.ErrBadArg
	}
	if whole(d.Sec, d.Nano).CmpAbs(whole(api.MaxDur, 0)) > 0 {
		return api.ErrRange
	}
	return api.OK
}

// worst is the error of two that has the lesser number.
func worst(a, b api.Errno) api.Errno {
	for _, e := range []api.Errno{api.ErrBadArg, api.ErrRange} {
		if a == e || b == e {
			return e
		}
	}
	return api.OK
}

// bits128 is n as a signed number, of which n is one.
func bits128(n *big.Int) api.Wide {
	n = new(big.Int).Mod(n, new(big.Int).Lsh(big.NewInt(1), 128))
	lo := new(big.Int).Mod(n, new(big.Int).Lsh(big.NewInt(1), 64))
	return api.Wide{Hi: new(big.Int).Rsh(n, 64).Uint64(), Lo: lo.Uint64()}
}

func number(t *testing.T, s string) api.Wide {
	t.Helper()
	n, e := wide.Parse(s)
	if e != api.OK {
		t.Fatalf("%s is no number: %d", s, e)
	}
	return n
}

// 3.1: New

func TestNew(t *testing.T) {
	for _, c := range []struct {
		sec, nano int
		i         api.Instant
		e         api.Errno
	}{
		{0, 0, api.Instant{}, api.OK},
		{5, 7, api.Instant{Sec: 5, Nano: 7}, api.OK},
		{-5, 7, api.Instant{Sec: -5, Nano: 7}, api.OK},
		{0, -1, api.Instant{Sec: -1, Nano: lastNano}, api.OK},
		{0, lastNano, api.Instant{Nano: lastNano}, api.OK},
		{0, 1000000000, api.Instant{Sec: 1}, api.OK},
		{0, -1000000000, api.Instant{Sec: -1}, api.OK},
		{0, -1000000001, api.Instant{Sec: -2, Nano: lastNano}, api.OK},
		{5, 2500000000, api.Instant{Sec: 7, Nano: 500000000}, api.OK},
		{5, -2500000000, api.Instant{Sec: 2, Nano: 500000000}, api.OK},
		{-1, 1, api.Instant{Sec: -1, Nano: 1}, api.OK},
		{0, most, api.Instant{Sec: 9223372036, Nano: 854775807}, api.OK},
		{0, least, api.Instant{Sec: -9223372037, Nano: 145224192}, api.OK},
		{api.MaxSec, lastNano, api.Instant{Sec: api.MaxSec, Nano: lastNano}, api.OK},
		{api.MaxSec, 1000000000, api.Instant{}, api.ErrRange},
		{api.MaxSec + 1, -1, api.Instant{Sec: api.MaxSec, Nano: lastNano}, api.OK},
		{api.MaxSec + 1, 0, api.Instant{}, api.ErrRange},
		{api.MaxSec + 9223372037, least, api.Instant{Sec: api.MaxSec, Nano: 145224192}, api.OK},
		{api.MaxSec + 9223372038, least, api.Instant{}, api.ErrRange},
		{api.MinSec, 0, api.Instant{Sec: api.MinSec}, api.OK},
		{api.MinSec, -1, api.Instant{}, api.ErrRange},
		{api.MinSec - 1, 1000000000, api.Instant{Sec: api.MinSec}, api.OK},
		{api.MinSec - 1, lastNano, api.Instant{}, api.ErrRange},
		{api.MinSec - 9223372036, most, api.Instant{Sec: api.MinSec, Nano: 854775807}, api.OK},
		{api.MinSec - 9223372037, most, api.Instant{}, api.ErrRange},
		{most, 1, api.Instant{}, api.ErrRange},
		{most, most, api.Instant{}, api.ErrRange},
		{most, 1000000000, api.Instant{}, api.ErrRange}, // the first second of all, if it wrapped
		{least, -1, api.Instant{}, api.ErrRange},
		{least, least, api.Instant{}, api.ErrRange},
		{least, most, api.Instant{}, api.ErrRange},
		{most, least, api.Instant{}, api.ErrRange},
		{1 << 55, 0, api.Instant{}, api.ErrRange}, // 0 nanoseconds, if it wrapped
		{-1 << 55, 7, api.Instant{}, api.ErrRange},
	} {
		if i, e := instant.New(c.sec, c.nano); i != c.i || e != c.e {
			t.Errorf("New(%d, %d) = %v, %d, want %v, %d", c.sec, c.nano, i, e, c.i, c.e)
		}
	}
}

func TestNewOfPairs(t *testing.T) {
	for _, p := range pairs() {
		want, wantE := due(whole(p.Sec, p.Nano))
		if i, e := instant.New(p.Sec, p.Nano); i != want || e != wantE {
			t.Errorf("New(%d, %d) = %v, %d, want %v, %d", p.Sec, p.Nano, i, e, want, wantE)
		}
	}
}

// 3.1: Check; ErrBadArg counts ahead of ErrRange

func TestCheck(t *testing.T) {
	for _, c := range []struct {
		i api.Instant
		e api.Errno
	}{
		{api.Instant{}, api.OK},
		{api.Instant{Nano: lastNano}, api.OK},
		{api.Instant{Nano: 1000000000}, api.ErrBadArg},
		{api.Instant{Nano: -1}, api.ErrBadArg},
		{api.Instant{Nano: most}, api.ErrBadArg},
		{api.Instant{Nano: least}, api.ErrBadArg},
		{api.Instant{Sec: api.MaxSec, Nano: lastNano}, api.OK},
		{api.Instant{Sec: api.MaxSec + 1}, api.ErrRange},
		{api.Instant{Sec: api.MaxSec + 1, Nano: -1}, api.ErrBadArg},
		{api.Instant{Sec: api.MaxSec + 1, Nano: 1000000000}, api.ErrBadArg},
		{api.Instant{Sec: api.MinSec}, api.OK},
		{api.Instant{Sec: api.MinSec - 1, Nano: lastNano}, api.ErrRange},
		{api.Instant{Sec: api.MinSec - 1, Nano: 1000000000}, api.ErrBadArg},
		{api.Instant{Sec: most}, api.ErrRange},
		{api.Instant{Sec: least}, api.ErrRange},
		{api.Instant{Sec: least, Nano: least}, api.ErrBadArg},
	} {
		if e := instant.Check(c.i); e != c.e {
			t.Errorf("Check(%v) = %d, want %d", c.i, e, c.e)
		}
	}
	for _, i := range pairs() {
		if e := instant.Check(i); e != dueCheck(i) {
			t.Errorf("Check(%v) = %d, want %d", i, e, dueCheck(i))
		}
	}
}

// 3.1: Cmp, by Sec and then by Nano, of any numbers

func TestCmp(t *testing.T) {
	for _, c := range []struct {
		a, b api.Instant
		want int
	}{
		{api.Instant{}, api.Instant{}, 0},
		{api.Instant{Sec: 3, Nano: 4}, api.Instant{Sec: 3, Nano: 4}, 0},
		{api.Instant{Sec: 3, Nano: 4}, api.Instant{Sec: 3, Nano: 5}, -1},
		{api.Instant{Sec: 3, Nano: 9}, api.Instant{Sec: 4, Nano: 1}, -1},
		{api.Instant{Sec: -1, Nano: lastNano}, api.Instant{}, -1},
		{api.Instant{Sec: -1, Nano: lastNano}, api.Instant{Sec: -1}, 1},
		{api.Instant{Sec: least}, api.Instant{Sec: most}, -1}, // no difference: it wraps
		{api.Instant{Nano: least}, api.Instant{Nano: most}, -1},
		{api.Instant{Sec: 1, Nano: least}, api.Instant{Nano: most}, 1},
		{api.Instant{Nano: 1000000000}, api.Instant{Sec: 1}, -1}, // not by what they come to
		{api.Instant{Nano: 2000000000}, api.Instant{Sec: 1}, -1},
		{api.Instant{Sec: 1, Nano: -1}, api.Instant{Nano: lastNano}, 1},
		{api.Instant{Sec: api.MinSec - 1}, api.Instant{Sec: api.MinSec}, -1},
	} {
		if n := instant.Cmp(c.a, c.b); n != c.want {
			t.Errorf("Cmp(%v, %v) = %d, want %d", c.a, c.b, n, c.want)
		}
		if n := instant.Cmp(c.b, c.a); n != -c.want {
			t.Errorf("Cmp(%v, %v) = %d, want %d", c.b, c.a, n, -c.want)
		}
	}
}

func TestCmpOfPairs(t *testing.T) {
	l := pairs() // rising, by Sec and then by Nano
	for n, a := range l {
		for m, b := range l {
			want := big.NewInt(int64(n)).Cmp(big.NewInt(int64(m)))
			if got := instant.Cmp(a, b); got != want {
				t.Fatalf("Cmp(%v, %v) = %d, want %d", a, b, got, want)
			}
		}
	}
}

// 3.1: Add

func TestAdd(t *testing.T) {
	first, last := api.Instant{Sec: api.MinSec}, api.Instant{Sec: api.MaxSec, Nano: lastNano}
	for _, c := range []struct {
		i    api.Instant
		d    api.Dur
		want api.Instant
		e    api.Errno
	}{
		{api.Instant{}, api.Dur{}, api.Instant{}, api.OK},
		{api.Instant{Sec: 5, Nano: 7}, api.Dur{Sec: 3, Nano: 2}, api.Instant{Sec: 8, Nano: 9}, api.OK},
		{api.Instant{Nano: lastNano}, api.Dur{Nano: 1}, api.Instant{Sec: 1}, api.OK},
		{api.Instant{Nano: lastNano}, api.Dur{Nano: lastNano}, api.Instant{Sec: 1, Nano: lastNano - 1}, api.OK},
		{api.Instant{}, api.Dur{Sec: -1, Nano: lastNano}, api.Instant{Sec: -1, Nano: lastNano}, api.OK},
		{api.Instant{Nano: 1}, api.Dur{Sec: -1, Nano: lastNano}, api.Instant{}, api.OK},
		{api.Instant{Sec: -3, Nano: 5}, api.Dur{Sec: -4}, api.Instant{Sec: -7, Nano: 5}, api.OK},
		{last, api.Dur{}, last, api.OK},
		{last, api.Dur{Nano: 1}, api.Instant{}, api.ErrRange},
		{api.Instant{Sec: api.MaxSec, Nano: lastNano - 1}, api.Dur{Nano: 1}, last, api.OK},
		{first, api.Dur{}, first, api.OK},
		{first, api.Dur{Sec: -1, Nano: lastNano}, api.Instant{}, api.ErrRange},
		{api.Instant{Sec: api.MinSec, Nano: 1}, api.Dur{Sec: -1, Nano: lastNano}, first, api.OK},
		{first, api.Dur{Sec: api.MaxSec - api.MinSec, Nano: lastNano}, last, api.OK},
		{last, api.Dur{Sec: api.MinSec - api.MaxSec - 1, Nano: 1}, first, api.OK},
		{first, api.Dur{Sec: api.MaxDur}, api.Instant{}, api.ErrRange},
		{first, api.Dur{Sec: api.MaxDur, Nano: 1}, api.Instant{}, api.ErrRange},
		{last, api.Dur{Sec: -api.MaxDur}, api.Instant{}, api.ErrRange},
		{last, api.Dur{Sec: -api.MaxDur - 1, Nano: lastNano}, api.Instant{}, api.ErrRange},
		{api.Instant{}, api.Dur{Sec: most}, api.Instant{}, api.ErrRange},
		{api.Instant{}, api.Dur{Sec: least}, api.Instant{}, api.ErrRange},
		{api.Instant{Sec: most}, api.Dur{Sec: most}, api.Instant{}, api.ErrRange},
		{api.Instant{}, api.Dur{Sec: 1 << 55}, api.Instant{}, api.ErrRange},
		{api.Instant{Sec: api.MaxSec + 1}, api.Dur{}, api.Instant{}, api.ErrRange},
		{api.Instant{Sec: api.MaxSec + 1}, api.Dur{Sec: -1}, api.Instant{}, api.ErrRange}, // though the sum is in range
		{api.Instant{Sec: api.MinSec - 1}, api.Dur{Sec: 1}, api.Instant{}, api.ErrRange},
		{api.Instant{Sec: api.MaxSec + 1}, api.Dur{Sec: -api.MaxDur - 1}, api.Instant{}, api.ErrRange},
		{api.Instant{Sec: api.MaxDur + 1}, api.Dur{Sec: -api.MaxDur - 1}, api.Instant{}, api.ErrRange},
	} {
		if got, e := instant.Add(c.i, c.d); got != c.want || e != c.e {
			t.Errorf("Add(%v, %v) = %v, %d, want %v, %d", c.i, c.d, got, e, c.want, c.e)
		}
	}
}

func TestAddOfPairs(t *testing.T) {
	for _, i := range pairs() {
		for _, p := range pairs() {
			d := api.Dur(p)
			want, wantE := due(new(big.Int).Add(whole(i.Sec, i.Nano), whole(d.Sec, d.Nano)))
			if e := worst(dueCheck(i), dueCheckDur(d)); e != api.OK {
				want, wantE = api.Instant{}, e
			}
			if got, e := instant.Add(i, d); got != want || e != wantE {
				t.Fatalf("Add(%v, %v) = %v, %d, want %v, %d", i, d, got, e, want, wantE)
			}
		}
	}
}

// 3.1: Sub

func TestSub(t *testing.T) {
	first, last := api.Instant{Sec: api.MinSec}, api.Instant{Sec: api.MaxSec, Nano: lastNano}
	for _, c := range []struct {
		a, b api.Instant
		want api.Dur
		e    api.Errno
	}{
		{api.Instant{}, api.Instant{}, api.Dur{}, api.OK},
		{api.Instant{Sec: 8, Nano: 9}, api.Instant{Sec: 5, Nano: 7}, api.Dur{Sec: 3, Nano: 2}, api.OK},
		{api.Instant{Sec: 5, Nano: 7}, api.Instant{Sec: 8, Nano: 9}, api.Dur{Sec: -4, Nano: lastNano - 1}, api.OK},
		{api.Instant{}, api.Instant{Nano: 1}, api.Dur{Sec: -1, Nano: lastNano}, api.OK},
		{api.Instant{Nano: 1}, api.Instant{}, api.Dur{Nano: 1}, api.OK},
		{api.Instant{Sec: 1}, api.Instant{Nano: lastNano}, api.Dur{Nano: 1}, api.OK},
		{api.Instant{Sec: -3}, api.Instant{Sec: -1}, api.Dur{Sec: -2}, api.OK},
		{first, last, api.Dur{Sec: api.MinSec - api.MaxSec - 1, Nano: 1}, api.OK},
		{last, first, api.Dur{Sec: api.MaxSec - api.MinSec, Nano: lastNano}, api.OK},
		{last, last, api.Dur{}, api.OK},
		{first, first, api.Dur{}, api.OK},
		{api.Instant{Sec: api.MaxSec + 1}, last, api.Dur{}, api.ErrRange},
		{last, api.Instant{Sec: api.MaxSec + 1}, api.Dur{}, api.ErrRange},
		{first, api.Instant{Sec: api.MinSec - 1, Nano: lastNano}, api.Dur{}, api.ErrRange},
		{api.Instant{Sec: api.MinSec - 1, Nano: lastNano}, first, api.Dur{}, api.ErrRange},
		{api.Instant{Sec: most}, api.Instant{Sec: most}, api.Dur{}, api.ErrRange},
		{api.Instant{Sec: most}, api.Instant{Sec: least}, api.Dur{}, api.ErrRange},
	} {
		if got, e := instant.Sub(c.a, c.b); got != c.want || e != c.e {
			t.Errorf("Sub(%v, %v) = %v, %d, want %v, %d", c.a, c.b, got, e, c.want, c.e)
		}
	}
}

func TestSubOfPairs(t *testing.T) {
	for _, a := range pairs() {
		for _, b := range pairs() {
			var want api.Dur
			wantE := worst(dueCheck(a), dueCheck(b))
			if wantE == api.OK {
				sec, nano := parts(new(big.Int).Sub(whole(a.Sec, a.Nano), whole(b.Sec, b.Nano)))
				want = api.Dur{Sec: int(sec.Int64()), Nano: nano}
			}
			if got, e := instant.Sub(a, b); got != want || e != wantE {
				t.Fatalf("Sub(%v, %v) = %v, %d, want %v, %d", a, b, got, e, want, wantE)
			}
		}
	}
}

// 3.1: Add, Sub: what is not well made is ErrBadArg, on either side, ahead of ErrRange

func TestNotWellMade(t *testing.T) {
	for _, nano := range []int{least, -1, 1000000000, most} {
		for _, far := range []int{0, api.MinSec - 1, api.MaxSec + 1, api.MaxDur + 1, -api.MaxDur - 1, most, least} {
			bad := api.Instant{Sec: 1, Nano: nano}
			other := api.Instant{Sec: far}
			if got, e := instant.Add(bad, api.Dur(other)); got != (api.Instant{}) || e != api.ErrBadArg {
				t.Errorf("Add(%v, %v) = %v, %d, want ErrBadArg", bad, other, got, e)
			}
			if got, e := instant.Add(other, api.Dur(bad)); got != (api.Instant{}) || e != api.ErrBadArg {
				t.Errorf("Add(%v, %v) = %v, %d, want ErrBadArg", other, bad, got, e)
			}
			if got, e := instant.Sub(bad, other); got != (api.Dur{}) || e != api.ErrBadArg {
				t.Errorf("Sub(%v, %v) = %v, %d, want ErrBadArg", bad, other, got, e)
			}
			if got, e := instant.Sub(other, bad); got != (api.Dur{}) || e != api.ErrBadArg {
				t.Errorf("Sub(%v, %v) = %v, %d, want ErrBadArg", other, bad, got, e)
			}
		}
	}
}

// 3.1: Nanos, with Check's error

func TestNanos(t *testing.T) {
	for _, c := range []struct {
		i    api.Instant
		want string
	}{
		{api.Instant{}, "0"},
		{api.Instant{Nano: 1}, "1"},
		{api.Instant{Sec: 7, Nano: 500000000}, "7500000000"},
		{api.Instant{Sec: -1, Nano: lastNano}, "-1"},
		{api.Instant{Sec: -1}, "-1000000000"},
		{api.Instant{Sec: 9223372036, Nano: 854775808}, "9223372036854775808"},
		{api.Instant{Sec: -9223372037, Nano: 145224191}, "-9223372036854775809"},
		{api.Instant{Sec: api.MaxSec, Nano: lastNano}, "253402300799999999999"},
		{api.Instant{Sec: api.MinSec}, "-377705116800000000000"},
	} {
		if n, e := instant.Nanos(c.i); wide.Text(n) != c.want || e != api.OK {
			t.Errorf("Nanos(%v) = %s, %d, want %s", c.i, wide.Text(n), e, c.want)
		}
	}
	if n, _ := instant.Nanos(api.Instant{Sec: -1, Nano: lastNano}); n != (api.Wide{Hi: all, Lo: all}) {
		t.Errorf("Nanos of -1 ns = %v", n)
	}
	for _, i := range pairs() {
		var want api.Wide
		wantE := dueCheck(i)
		if wantE == api.OK {
			want = bits128(whole(i.Sec, i.Nano))
		}
		if n, e := instant.Nanos(i); n != want || e != wantE {
			t.Errorf("Nanos(%v) = %v, %d, want %v, %d", i, n, e, want, wantE)
		}
	}
}

// 3.1: OfNanos

func TestOfNanos(t *testing.T) {
	for _, c := range []struct {
		n    string
		want api.Instant
		e    api.Errno
	}{
		{"0", api.Instant{}, api.OK},
		{"1", api.Instant{Nano: 1}, api.OK},
		{"-1", api.Instant{Sec: -1, Nano: lastNano}, api.OK},
		{"999999999", api.Instant{Nano: lastNano}, api.OK},
		{"1000000000", api.Instant{Sec: 1}, api.OK},
		{"-999999999", api.Instant{Sec: -1, Nano: 1}, api.OK},
		{"-1000000000", api.Instant{Sec: -1}, api.OK},
		{"-1000000001", api.Instant{Sec: -2, Nano: lastNano}, api.OK},
		{"18446744073709551616", api.Instant{Sec: 18446744073, Nano: 709551616}, api.OK},
		{"-18446744073709551616", api.Instant{Sec: -18446744074, Nano: 290448384}, api.OK},
		{"253402300799999999999", api.Instant{Sec: api.MaxSec, Nano: lastNano}, api.OK},
		{"253402300800000000000", api.Instant{}, api.ErrRange},
		{"-377705116800000000000", api.Instant{Sec: api.MinSec}, api.OK},
		{"-377705116800000000001", api.Instant{}, api.ErrRange},
		{"18446744073709551616000000000", api.Instant{}, api.ErrRange}, // 2^64 seconds
		{"-18446744073709551616000000000", api.Instant{}, api.ErrRange},
		{"9223372036854775808000000000", api.Instant{}, api.ErrRange}, // 2^63 seconds
		{"9223371659149659008000000000", api.Instant{}, api.ErrRange},
		{"18446743696004434816000000000", api.Instant{}, api.ErrRange}, // the first second of all, if seconds wrapped
		{"170141183460469231731687303715884105727", api.Instant{}, api.ErrRange},
		{"-170141183460469231731687303715884105728", api.Instant{}, api.ErrRange},
	} {
		if i, e := instant.OfNanos(number(t, c.n)); i != c.want || e != c.e {
			t.Errorf("OfNanos(%s) = %v, %d, want %v, %d", c.n, i, e, c.want, c.e)
		}
	}
}

// signed numbers of all sizes, each with its neighbours, and the range's edges with theirs
func TestOfNanosOfAllSizes(t *testing.T) {
	l := []*big.Int{whole(api.MinSec, 0), whole(api.MaxSec, lastNano), new(big.Int)}
	for n := range uint(127) {
		power := new(big.Int).Lsh(big.NewInt(1), n)
		l = append(l, power, new(big.Int).Neg(power), whole(1<<min(n, 62), 0), whole(-1<<min(n, 62), 0))
	}
	for _, middle := range l {
		for by := int64(-2); by <= 2; by++ {
			n := new(big.Int).Add(middle, big.NewInt(by))
			want, wantE := due(n)
			if i, e := instant.OfNanos(bits128(n)); i != want || e != wantE {
				t.Errorf("OfNanos(%v) = %v, %d, want %v, %d", n, i, e, want, wantE)
			}
		}
	}
}

// 3.2: Add of what Sub told; OfNanos of what Nanos told

func TestThereAndBack(t *testing.T) {
	for _, a := range good() {
		n, e := instant.Nanos(a)
		if i, f := instant.OfNanos(n); i != a || e != api.OK || f != api.OK {
			t.Errorf("OfNanos(Nanos(%v)) = %v, %d, %d", a, i, e, f)
		}
		for _, b := range good() {
			d, e := instant.Sub(a, b)
			if got, f := instant.Add(b, d); got != a || e != api.OK || f != api.OK {
				t.Fatalf("Add(%v, Sub(%v, %v)) = %v, %d, %d", b, a, b, got, e, f)
			}
		}
	}
}
