package wide_test

// Each test names the promise that it holds (shared/doc/01-wide.md). What the
// numbers should be is told by math/big, which knows no 128 bits, beside values
// that are written out by hand.

import (
	"math"
	"math/big"
	"strings"
	"testing"

	"analemma/api"
	"analemma/wide"
)

const (
	all = math.MaxUint64
	top = 1 << 63
)

var two128 = new(big.Int).Lsh(big.NewInt(1), 128)

// words are 64 bits' edges, and the greatest powers of 10 within them.
func words() []uint64 {
	return []uint64{
		0, 1, 2, 3, 7, 9, 10, 11, 99, 100,
		1<<31 - 1, 1 << 31, 1<<32 - 1, 1 << 32, 1<<32 + 1,
		1e18, 1e19, 0x0123456789ABCDEF, 0xAAAAAAAAAAAAAAAA,
		top - 1, top, top + 1, all - 9, all - 1, all,
	}
}

// wides are all pairs of words, and a row of numbers that have no pattern.
func wides() []api.Wide {
	var l []api.Wide
	for _, hi := range words() {
		for _, lo := range words() {
			l = append(l, api.Wide{Hi: hi, Lo: lo})
		}
	}
	x := uint64(0x9E3779B97F4A7C15)
	next := func() uint64 {
		x ^= x << 13
		x ^= x >> 7
		x ^= x << 17
		return x
	}
	for n := range 64 {
		l = append(l, api.Wide{Hi: next() >> n, Lo: next()})
	}
	return l
}

func plain(a api.Wide) *big.Int {
	n := new(big.Int).SetUint64(a.Hi)
	return n.Add(n.Lsh(n, 64), new(big.Int).SetUint64(a.Lo))
}

func signed(a api.Wide) *big.Int {
	n := plain(a)
	if a.Hi >= top {
		n.Sub(n, two128)
	}
	return n
}

// bits128 is n modulo 2^128.
func bits128(n *big.Int) api.Wide {
	n = new(big.Int).Mod(n, two128)
	lo := new(big.Int).Mod(n, new(big.Int).Lsh(big.NewInt(1), 64))
	return api.Wide{Hi: new(big.Int).Rsh(n, 64).Uint64(), Lo: lo.Uint64()}
}

// 1.1: Of

func TestOf(t *testing.T) {
	for n, want := range map[int]api.Wide{
		0:             {},
		1:             {Lo: 1},
		-1:            {Hi: all, Lo: all},
		-2:            {Hi: all, Lo: all - 1},
		math.MaxInt:   {Lo: math.MaxInt},
		math.MinInt:   {Hi: all, Lo: top},
		api.MaxDur:    {Lo: 1 << 40},
		-api.MaxDur:   {Hi: all, Lo: all - 1<<40 + 1},
		math.MinInt32: {Hi: all, Lo: all - 1<<31 + 1},
	} {
		if a := wide.Of(n); a != want {
			t.Errorf("Of(%d) = %v, want %v", n, a, want)
		}
	}
}

// 1.1: Int

func TestInt(t *testing.T) {
	for _, a := range wides() {
		n, e := wide.Int(a)
		want := signed(a)
		if want.IsInt64() {
			if e != api.OK || int64(n) != want.Int64() {
				t.Errorf("Int(%v) = %d, %d, want %v", a, n, e, want)
			}
		} else if e != api.ErrRange || n != 0 {
			t.Errorf("Int(%v) = %d, %d, want 0, ErrRange", a, n, e)
		}
	}
}

func TestIntAtItsEdges(t *testing.T) {
	for _, c := range []struct {
		a api.Wide
		n int
		e api.Errno
	}{
		{api.Wide{Lo: top - 1}, math.MaxInt, api.OK},
		{api.Wide{Lo: top}, 0, api.ErrRange},
		{api.Wide{Lo: all}, 0, api.ErrRange},
		{api.Wide{Hi: all, Lo: top}, math.MinInt, api.OK},
		{api.Wide{Hi: all, Lo: top - 1}, 0, api.ErrRange},
		{api.Wide{Hi: all}, 0, api.ErrRange},
		{api.Wide{Hi: 1}, 0, api.ErrRange},
		{api.Wide{Hi: 1, Lo: 5}, 0, api.ErrRange},
		{api.Wide{Hi: top}, 0, api.ErrRange},
		{api.Wide{Hi: top, Lo: all}, 0, api.ErrRange},
		{api.Wide{Hi: all - 1, Lo: all}, 0, api.ErrRange},
	} {
		if n, e := wide.Int(c.a); n != c.n || e != c.e {
			t.Errorf("Int(%v) = %d, %d, want %d, %d", c.a, n, e, c.n, c.e)
		}
	}
}

func TestIntOfOf(t *testing.T) {
	for _, w := range words() {
		for _, n := range []int{int(w), -int(w)} {
			if got, e := wide.Int(wide.Of(n)); got != n || e != api.OK {
				t.Errorf("Int(Of(%d)) = %d, %d", n, got, e)
			}
		}
	}
}

// 1.1: Add, Sub, Cmp, Signed: all pairs

func TestPairs(t *testing.T) {
	l := wides()
	type told struct{ plain, signed *big.Int }
	known := make([]told, len(l))
	for i, a := range l {
		known[i] = told{plain(a), signed(a)}
	}
	for i, a := range l {
		for j, b := range l {
			n, m := known[i], known[j]
			sum := new(big.Int).Add(n.plain, m.plain)
			if got, past := wide.Add(a, b); got != bits128(sum) || past != (sum.Cmp(two128) >= 0) {
				t.Fatalf("Add(%v, %v) = %v, %v", a, b, got, past)
			}
			less := new(big.Int).Sub(n.plain, m.plain)
			if got, below := wide.Sub(a, b); got != bits128(less) || below != (less.Sign() < 0) {
				t.Fatalf("Sub(%v, %v) = %v, %v", a, b, got, below)
			}
			if got := wide.Cmp(a, b); got != n.plain.Cmp(m.plain) {
				t.Fatalf("Cmp(%v, %v) = %d", a, b, got)
			}
			if got := wide.Signed(a, b); got != n.signed.Cmp(m.signed) {
				t.Fatalf("Signed(%v, %v) = %d", a, b, got)
			}
		}
	}
}

func TestAddPast(t *testing.T) {
	for _, c := range []struct {
		a, b, sum api.Wide
		past      bool
	}{
		{api.Wide{Hi: all, Lo: all}, api.Wide{Lo: 1}, api.Wide{}, true},
		{api.Wide{Hi: all, Lo: all}, api.Wide{}, api.Wide{Hi: all, Lo: all}, false},
		{api.Wide{Hi: all, Lo: all}, api.Wide{Hi: all, Lo: all}, api.Wide{Hi: all, Lo: all - 1}, true},
		{api.Wide{Lo: all}, api.Wide{Lo: 1}, api.Wide{Hi: 1}, false},
		{api.Wide{Hi: top}, api.Wide{Hi: top}, api.Wide{}, true},
		{api.Wide{Hi: top - 1, Lo: all}, api.Wide{Lo: 1}, api.Wide{Hi: top}, false},
		{wide.Of(5), wide.Of(-7), wide.Of(-2), false},
		{wide.Of(7), wide.Of(-5), wide.Of(2), true},
	} {
		if sum, past := wide.Add(c.a, c.b); sum != c.sum || past != c.past {
			t.Errorf("Add(%v, %v) = %v, %v, want %v, %v", c.a, c.b, sum, past, c.sum, c.past)
		}
	}
}

func TestSubBelow(t *testing.T) {
	for _, c := range []struct {
		a, b, less api.Wide
		below      bool
	}{
		{api.Wide{}, api.Wide{Lo: 1}, api.Wide{Hi: all, Lo: all}, true},
		{api.Wide{}, api.Wide{}, api.Wide{}, false},
		{api.Wide{Hi: 1}, api.Wide{Lo: 1}, api.Wide{Lo: all}, false},
		{api.Wide{Hi: 3, Lo: 5}, api.Wide{Hi: 3, Lo: 5}, api.Wide{}, false},
		{api.Wide{Hi: 3, Lo: 5}, api.Wide{Hi: 3, Lo: 6}, api.Wide{Hi: all, Lo: all}, true},
		{wide.Of(5), wide.Of(-7), wide.Of(12), true},
		{wide.Of(-7), wide.Of(5), wide.Of(-12), false},
	} {
		if less, below := wide.Sub(c.a, c.b); less != c.less || below != c.below {
			t.Errorf("Sub(%v, %v) = %v, %v, want %v, %v", c.a, c.b, less, below, c.less, c.below)
		}
	}
}

func TestCmpAndSigned(t *testing.T) {
	least, most := api.Wide{Hi: top}, api.Wide{Hi: top - 1, Lo: all}
	for _, c := range []struct {
		a, b        api.Wide
		cmp, signed int
	}{
		{wide.Of(3), wide.Of(3), 0, 0},
		{wide.Of(-3), wide.Of(-3), 0, 0},
		{wide.Of(2), wide.Of(3), -1, -1},
		{wide.Of(-2), wide.Of(-3), 1, 1},
		{wide.Of(-1), wide.Of(1), 1, -1},
		{wide.Of(0), wide.Of(-1), -1, 1},
		{least, most, 1, -1},
		{most, least, -1, 1},
		{api.Wide{Hi: 1}, api.Wide{Lo: all}, 1, 1},
		{api.Wide{Hi: 1, Lo: 2}, api.Wide{Hi: 1, Lo: 3}, -1, -1},
	} {
		if got := wide.Cmp(c.a, c.b); got != c.cmp {
			t.Errorf("Cmp(%v, %v) = %d, want %d", c.a, c.b, got, c.cmp)
		}
		if got := wide.Signed(c.a, c.b); got != c.signed {
			t.Errorf("Signed(%v, %v) = %d, want %d", c.a, c.b, got, c.signed)
		}
	}
}

// 1.1: Neg

func TestNeg(t *testing.T) {
	for _, a := range wides() {
		if got := wide.Neg(a); got != bits128(new(big.Int).Neg(plain(a))) {
			t.Errorf("Neg(%v) = %v", a, got)
		}
	}
	for a, want := range map[api.Wide]api.Wide{
		{}:                 {},
		{Lo: 1}:            {Hi: all, Lo: all},
		{Hi: all, Lo: all}: {Lo: 1},
		{Hi: 1}:            {Hi: all},
		{Hi: top}:          {Hi: top},
		{Hi: top, Lo: 1}:   {Hi: top - 1, Lo: all},
	} {
		if got := wide.Neg(a); got != want {
			t.Errorf("Neg(%v) = %v, want %v", a, got, want)
		}
	}
}

// 1.1: Mul

func TestMul(t *testing.T) {
	for _, a := range words() {
		for _, b := range words() {
			want := new(big.Int).Mul(new(big.Int).SetUint64(a), new(big.Int).SetUint64(b))
			if got := wide.Mul(a, b); got != bits128(want) {
				t.Errorf("Mul(%d, %d) = %v, want %v", a, b, got, want)
			}
		}
	}
	if got := wide.Mul(top, 4); got != (api.Wide{Hi: 2}) {
		t.Errorf("Mul(2^63, 4) = %v", got)
	}
	if got := wide.Mul(all, all); got != (api.Wide{Hi: all - 1, Lo: 1}) {
		t.Errorf("Mul of the greatest = %v", got)
	}
}

// 1.1: Div; 1.3: its quotient times the divisor and the rest

func TestDiv(t *testing.T) {
	for _, a := range wides() {
		for _, b := range words() {
			if b == 0 {
				continue
			}
			q, r, e := wide.Div(a, b)
			wantQ, wantR := new(big.Int).QuoRem(plain(a), new(big.Int).SetUint64(b), new(big.Int))
			if e != api.OK || q != bits128(wantQ) || r != wantR.Uint64() {
				t.Fatalf("Div(%v, %d) = %v, %d, %d, want %v, %v", a, b, q, r, e, wantQ, wantR)
			}
			back := new(big.Int).Mul(plain(q), new(big.Int).SetUint64(b))
			if back.Add(back, new(big.Int).SetUint64(r)).Cmp(plain(a)) != 0 || r >= b {
				t.Fatalf("Div(%v, %d) = %v, %d does not lead back", a, b, q, r)
			}
		}
	}
}

func TestDivByZero(t *testing.T) {
	for _, a := range wides() {
		if q, r, e := wide.Div(a, 0); q != (api.Wide{}) || r != 0 || e != api.ErrBadArg {
			t.Fatalf("Div(%v, 0) = %v, %d, %d, want zeros and ErrBadArg", a, q, r, e)
		}
	}
}

func TestDivFromZeroOn(t *testing.T) {
	q, r, e := wide.Div(wide.Of(-1), 2)
	if q != (api.Wide{Hi: top - 1, Lo: all}) || r != 1 || e != api.OK {
		t.Errorf("Div(2^128 - 1, 2) = %v, %d, %d", q, r, e)
	}
}

// 1.2: Text

func TestText(t *testing.T) {
	for _, a := range wides() {
		if got := wide.Text(a); got != signed(a).String() {
			t.Errorf("Text(%v) = %s, want %v", a, got, signed(a))
		}
	}
	for a, want := range map[api.Wide]string{
		{}:                     "0",
		{Lo: 7}:                "7",
		{Lo: 10}:               "10",
		{Hi: all, Lo: all}:     "-1",
		{Hi: all, Lo: all - 9}: "-10",
		{Hi: 1}:                "18446744073709551616",
		{Hi: all}:              "-18446744073709551616",
		{Hi: top - 1, Lo: all}: "170141183460469231731687303715884105727",
		{Hi: top}:              "-170141183460469231731687303715884105728",
		{Hi: top, Lo: 1}:       "-170141183460469231731687303715884105727",
	} {
		if got := wide.Text(a); got != want {
			t.Errorf("Text(%v) = %s, want %s", a, got, want)
		}
	}
}

// 1.3: Parse of Text is the number

func TestParseOfText(t *testing.T) {
	for _, a := range wides() {
		if got, e := wide.Parse(wide.Text(a)); got != a || e != api.OK {
			t.Errorf("Parse(%s) = %v, %d, want %v", wide.Text(a), got, e, a)
		}
	}
	power := big.NewInt(1)
	for range 39 { // where a digit more begins
		for _, near := range []int64{-1, 0, 1} {
			n := new(big.Int).Add(power, big.NewInt(near))
			for _, m := range []*big.Int{n, new(big.Int).Neg(n)} {
				a := bits128(m)
				if got, e := wide.Parse(m.String()); got != a || e != api.OK || wide.Text(a) != m.String() {
					t.Errorf("Parse(%v) = %v, %d; Text(%v) = %s", m, got, e, a, wide.Text(a))
				}
			}
		}
		power.Mul(power, big.NewInt(10))
	}
}

// 1.2: Parse, and the errors in their order

func TestParse(t *testing.T) {
	for s, want := range map[string]api.Wide{
		"0":                    {},
		"1":                    {Lo: 1},
		"-1":                   {Hi: all, Lo: all},
		"100":                  {Lo: 100},
		"-10":                  {Hi: all, Lo: all - 9},
		"9223372036854775808":  {Lo: top},
		"18446744073709551615": {Lo: all},
		"18446744073709551616": {Hi: 1},
		"170141183460469231731687303715884105727":  {Hi: top - 1, Lo: all},
		"-170141183460469231731687303715884105727": {Hi: top, Lo: 1},
		"-170141183460469231731687303715884105728": {Hi: top},
	} {
		if got, e := wide.Parse(s); got != want || e != api.OK {
			t.Errorf("Parse(%s) = %v, %d, want %v", s, got, e, want)
		}
	}
}

func refuse(t *testing.T, want api.Errno, texts ...string) {
	t.Helper()
	for _, s := range texts {
		if got, e := wide.Parse(s); got != (api.Wide{}) || e != want {
			t.Errorf("Parse(%q) = %v, %d, want zeros and %d", s, got, e, want)
		}
	}
}

func TestParseSyntax(t *testing.T) {
	refuse(t, api.ErrSyntax,
		"", "-", "--1", "+1", "+", "-+1", "1-", "1-1", "-0", "00", "-00", "07", "-07", "0-", "000",
		" 1", "1 ", "- 1", "1 2", "\n1", "1\n", "1_000", "1,0", "1.0", "1e3", "0x10", "a", "1a", "a1", "/", ":", "1/", "1:",
		"\x00", "1\x00", "\xff", "1\xb1", "\u0661", "\uff11", "\u22121")
}

func TestParseEveryByte(t *testing.T) {
	for c := range 256 {
		if c >= '0' && c <= '9' {
			continue
		}
		refuse(t, api.ErrSyntax, "1"+string([]byte{byte(c)}), "1"+string([]byte{byte(c)})+"1")
		if c != '-' {
			refuse(t, api.ErrSyntax, string([]byte{byte(c)})+"1")
		}
	}
}

func TestParseRange(t *testing.T) {
	refuse(t, api.ErrRange,
		"170141183460469231731687303715884105728",
		"-170141183460469231731687303715884105729",
		"170141183460469231731687303715884105730",
		"-170141183460469231731687303715884105730",
		"200000000000000000000000000000000000000",
		"-200000000000000000000000000000000000000",
		"340282366920938463463374607431768211455",
		"-340282366920938463463374607431768211455",
		"340282366920938463463374607431768211456", // 2^128 and on: 0, if it wrapped
		"-340282366920938463463374607431768211456",
		"340282366920938463463374607431768211457",
		"-340282366920938463463374607431768211457",
		"510423550381407695195061911147652317183",
		"999999999999999999999999999999999999999",
		"-999999999999999999999999999999999999999",
		"1000000000000000000000000000000000000000",
		"3402823669209384634633746074317682114560",
		"-3402823669209384634633746074317682114560",
		strings.Repeat("9", 64), "-"+strings.Repeat("9", 63), "1"+strings.Repeat("0", 63), "-1"+strings.Repeat("0", 62))
}

func TestParseWrapsNowhere(t *testing.T) {
	n := new(big.Int).Lsh(big.NewInt(1), 127)
	for len(n.String()) < 64 { // each power of 2 is 0, if it wrapped, and each one more is 1
		for _, near := range []int64{0, 1, 5} {
			m := new(big.Int).Add(n, big.NewInt(near)).String()
			refuse(t, api.ErrRange, m)
			if near > 0 || len(m) > 39 {
				refuse(t, api.ErrRange, "-"+m)
			}
		}
		n.Lsh(n, 1)
	}
}

func TestParseLength(t *testing.T) {
	refuse(t, api.ErrTooBig,
		strings.Repeat("1", 65), "-"+strings.Repeat("1", 64), strings.Repeat("0", 65), strings.Repeat("x", 65),
		strings.Repeat(" ", 64)+"1", strings.Repeat("\u0661", 33), strings.Repeat("9", 1<<20))
	refuse(t, api.ErrSyntax,
		strings.Repeat("0", 64), strings.Repeat("x", 64), strings.Repeat("\u0661", 32), strings.Repeat("9", 63)+"x",
		"0"+strings.Repeat("9", 63), "-0"+strings.Repeat("9", 62), strings.Repeat("9", 41)+"-")
}
