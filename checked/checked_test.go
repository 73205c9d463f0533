package checked_test

// Each test names what it holds of promise 2.1 (shared/doc/02-checked.md). What
// the numbers should be is told by math/big, beside values that are written out
// by hand.

import (
	"math"
	"math/big"
	"testing"

	"analemma/api"
	"analemma/checked"
)

const (
	most  = math.MaxInt
	least = math.MinInt
	root  = 3037000499 // the greatest whose square is an int
)

// ints are edges of both signs, and a row of numbers that have no pattern.
func ints() []int {
	l := []int{0, least, least + 1, least + 2}
	for _, n := range []int{
		1, 2, 3, 5, 7, 10, 59, 1000, api.MaxField, 86400e9,
		1<<31 - 1, 1 << 31, 1<<32 - 1, 1 << 32, 1<<32 + 1,
		root - 1, root, root + 1, api.MaxDur,
		1<<61 - 1, 1 << 61, 1<<62 - 1, 1 << 62, 1<<62 + 1, most / 3, most - 1, most,
	} {
		l = append(l, n, -n)
	}
	x := uint64(0x9E3779B97F4A7C15)
	for n := range 16 {
		x ^= x << 13
		x ^= x >> 7
		x ^= x << 17
		l = append(l, int(x)>>(4*n))
	}
	return l
}

func large(n int) *big.Int {
	return big.NewInt(int64(n))
}

// due is what a call must answer, if n is its exact result.
func due(n *big.Int) (int, api.Errno) {
	if !n.IsInt64() {
		return 0, api.ErrRange
	}
	return int(n.Int64()), api.OK
}

// down divides p by c, which is not 0, and goes down from there till the rest has c's sign.
func down(p, c *big.Int) (quotient, rest *big.Int) {
	quotient, rest = new(big.Int).QuoRem(p, c, new(big.Int))
	for rest.Sign() != 0 && rest.Sign() != c.Sign() {
		quotient.Sub(quotient, big.NewInt(1))
		rest.Add(rest, c)
	}
	return quotient, rest
}

// a pair of ints, and what one of the calls must answer of it
type pair struct {
	a, b, want int
	e          api.Errno
}

func holdPairs(t *testing.T, name string, call func(a, b int) (int, api.Errno), l []pair) {
	t.Helper()
	for _, c := range l {
		if n, e := call(c.a, c.b); n != c.want || e != c.e {
			t.Errorf("%s(%d, %d) = %d, %d, want %d, %d", name, c.a, c.b, n, e, c.want, c.e)
		}
	}
}

// Add

func TestAdd(t *testing.T) {
	holdPairs(t, "Add", checked.Add, []pair{
		{0, 0, 0, api.OK},
		{2, 3, 5, api.OK},
		{2, -3, -1, api.OK},
		{-2, -3, -5, api.OK},
		{most, 0, most, api.OK},
		{most - 1, 1, most, api.OK},
		{most, 1, 0, api.ErrRange},
		{1, most, 0, api.ErrRange},
		{most, most, 0, api.ErrRange},
		{least, 0, least, api.OK},
		{least + 1, -1, least, api.OK},
		{least, -1, 0, api.ErrRange},
		{-1, least, 0, api.ErrRange},
		{least, least, 0, api.ErrRange}, // 0, if it wrapped
		{least, most, -1, api.OK},
		{most, least, -1, api.OK},
		{1 << 62, 1 << 62, 0, api.ErrRange},
		{-1 << 62, -1 << 62, least, api.OK},
	})
}

// Sub

func TestSub(t *testing.T) {
	holdPairs(t, "Sub", checked.Sub, []pair{
		{0, 0, 0, api.OK},
		{2, 3, -1, api.OK},
		{2, -3, 5, api.OK},
		{-2, -3, 1, api.OK},
		{least, 1, 0, api.ErrRange},
		{least + 1, 1, least, api.OK},
		{most, -1, 0, api.ErrRange},
		{most - 1, -1, most, api.OK},
		{0, least, 0, api.ErrRange},
		{-1, least, most, api.OK},
		{1, least, 0, api.ErrRange},
		{0, most, -most, api.OK},
		{-1, most, least, api.OK},
		{-2, most, 0, api.ErrRange},
		{least, least, 0, api.OK},
		{most, most, 0, api.OK},
		{most, least, 0, api.ErrRange}, // -1, if it wrapped
		{least, most, 0, api.ErrRange}, // 1, if it wrapped
	})
}

// Mul

func TestMul(t *testing.T) {
	holdPairs(t, "Mul", checked.Mul, []pair{
		{0, 0, 0, api.OK},
		{3, 7, 21, api.OK},
		{-3, 7, -21, api.OK},
		{3, -7, -21, api.OK},
		{-3, -7, 21, api.OK},
		{0, least, 0, api.OK},
		{least, 0, 0, api.OK},
		{least, 1, least, api.OK},
		{1, least, least, api.OK},
		{least, -1, 0, api.ErrRange},
		{-1, least, 0, api.ErrRange},
		{most, -1, -most, api.OK},
		{most, 1, most, api.OK},
		{most, 2, 0, api.ErrRange},
		{least, 2, 0, api.ErrRange}, // 0, if it wrapped
		{least, least, 0, api.ErrRange},
		{most, most, 0, api.ErrRange}, // 1, if it wrapped
		{1 << 62, 2, 0, api.ErrRange},
		{1 << 62, -2, least, api.OK},
		{-1 << 62, 2, least, api.OK},
		{-1 << 62, -2, 0, api.ErrRange},
		{1 << 32, 1 << 32, 0, api.ErrRange}, // 0, if it wrapped
		{1 << 32, 1 << 31, 0, api.ErrRange},
		{-1 << 32, 1 << 31, least, api.OK},
		{root, root, root * root, api.OK},
		{root + 1, root + 1, 0, api.ErrRange},
		{-root - 1, root + 1, 0, api.ErrRange},
		{most / 7, 7, most, api.OK}, // 7 divides 2^63 - 1
		{most / 7, -7, -most, api.OK},
		{most/7 + 1, 7, 0, api.ErrRange},
	})
}

// Neg, Abs

func TestNegAndAbs(t *testing.T) {
	for _, c := range []struct {
		a, neg, abs int
		e           api.Errno
	}{
		{0, 0, 0, api.OK},
		{5, -5, 5, api.OK},
		{-5, 5, 5, api.OK},
		{1, -1, 1, api.OK},
		{-1, 1, 1, api.OK},
		{most, -most, most, api.OK},
		{least + 1, most, most, api.OK},
		{least, 0, 0, api.ErrRange},
	} {
		if n, e := checked.Neg(c.a); n != c.neg || e != c.e {
			t.Errorf("Neg(%d) = %d, %d, want %d, %d", c.a, n, e, c.neg, c.e)
		}
		if n, e := checked.Abs(c.a); n != c.abs || e != c.e {
			t.Errorf("Abs(%d) = %d, %d, want %d, %d", c.a, n, e, c.abs, c.e)
		}
	}
	for _, a := range ints() {
		want, wantE := due(new(big.Int).Neg(large(a)))
		if n, e := checked.Neg(a); n != want || e != wantE {
			t.Errorf("Neg(%d) = %d, %d, want %d, %d", a, n, e, want, wantE)
		}
		want, wantE = due(new(big.Int).Abs(large(a)))
		if n, e := checked.Abs(a); n != want || e != wantE {
			t.Errorf("Abs(%d) = %d, %d, want %d, %d", a, n, e, want, wantE)
		}
	}
}

// Add, Sub, Mul: all pairs

func TestSumsOfPairs(t *testing.T) {
	for _, c := range []struct {
		name  string
		call  func(a, b int) (int, api.Errno)
		exact func(z, a, b *big.Int) *big.Int
	}{
		{"Add", checked.Add, (*big.Int).Add},
		{"Sub", checked.Sub, (*big.Int).Sub},
		{"Mul", checked.Mul, (*big.Int).Mul},
	} {
		for _, a := range ints() {
			for _, b := range ints() {
				want, wantE := due(c.exact(new(big.Int), large(a), large(b)))
				if n, e := c.call(a, b); n != want || e != wantE {
					t.Fatalf("%s(%d, %d) = %d, %d, want %d, %d", c.name, a, b, n, e, want, wantE)
				}
			}
		}
	}
}

// FloorDiv: rounded down, in each case of signs

func TestFloorDiv(t *testing.T) {
	holdPairs(t, "FloorDiv", checked.FloorDiv, []pair{
		{7, 2, 3, api.OK},
		{-7, 2, -4, api.OK},
		{7, -2, -4, api.OK},
		{-7, -2, 3, api.OK},
		{6, 2, 3, api.OK},
		{-6, 2, -3, api.OK},
		{6, -2, -3, api.OK},
		{-6, -2, 3, api.OK},
		{0, 5, 0, api.OK},
		{0, -5, 0, api.OK},
		{1, 5, 0, api.OK},
		{-1, 5, -1, api.OK},
		{1, -5, -1, api.OK},
		{-1, -5, 0, api.OK},
		{most, 1, most, api.OK},
		{most, -1, -most, api.OK},
		{least, 1, least, api.OK},
		{least, -1, 0, api.ErrRange},
		{least + 1, -1, most, api.OK},
		{least, 2, -1 << 62, api.OK},
		{least, -2, 1 << 62, api.OK},
		{least, least, 1, api.OK},
		{most, least, -1, api.OK},
		{least, most, -2, api.OK},
		{1, least, -1, api.OK},
		{-1, least, 0, api.OK},
		{-1, most, -1, api.OK},
		{0, least, 0, api.OK},
	})
}

// FloorMod: the divisor's sign, or 0; no ErrRange, for the rest is always an int

func TestFloorMod(t *testing.T) {
	holdPairs(t, "FloorMod", checked.FloorMod, []pair{
		{7, 2, 1, api.OK},
		{-7, 2, 1, api.OK},
		{7, -2, -1, api.OK},
		{-7, -2, -1, api.OK},
		{8, 5, 3, api.OK},
		{-8, 5, 2, api.OK},
		{8, -5, -2, api.OK},
		{-8, -5, -3, api.OK},
		{6, 2, 0, api.OK},
		{-6, 2, 0, api.OK},
		{6, -2, 0, api.OK},
		{-6, -2, 0, api.OK},
		{0, 5, 0, api.OK},
		{0, -5, 0, api.OK},
		{least, -1, 0, api.OK},
		{least, 1, 0, api.OK},
		{most, -1, 0, api.OK},
		{least, least, 0, api.OK},
		{most, least, -1, api.OK},
		{least, most, most - 1, api.OK},
		{1, least, -most, api.OK},
		{-1, least, -1, api.OK},
		{-1, most, most - 1, api.OK},
		{0, least, 0, api.OK},
	})
}

// FloorDiv, FloorMod: all pairs

func TestFloorOfPairs(t *testing.T) {
	for _, a := range ints() {
		for _, b := range ints() {
			if b == 0 {
				continue
			}
			quotient, rest := down(large(a), large(b))
			want, wantE := due(quotient)
			if n, e := checked.FloorDiv(a, b); n != want || e != wantE {
				t.Fatalf("FloorDiv(%d, %d) = %d, %d, want %d, %d", a, b, n, e, want, wantE)
			}
			want, wantE = due(rest)
			if n, e := checked.FloorMod(a, b); n != want || e != wantE {
				t.Fatalf("FloorMod(%d, %d) = %d, %d, want %d, %d", a, b, n, e, want, wantE)
			}
		}
	}
}

// FloorDiv, FloorMod, MulDiv: by 0, ErrBadArg counts ahead of ErrRange

func TestByZero(t *testing.T) {
	for _, a := range ints() {
		if n, e := checked.FloorDiv(a, 0); n != 0 || e != api.ErrBadArg {
			t.Errorf("FloorDiv(%d, 0) = %d, %d, want 0, ErrBadArg", a, n, e)
		}
		if n, e := checked.FloorMod(a, 0); n != 0 || e != api.ErrBadArg {
			t.Errorf("FloorMod(%d, 0) = %d, %d, want 0, ErrBadArg", a, n, e)
		}
		for _, b := range ints() {
			if n, rest, e := checked.MulDiv(a, b, 0); n != 0 || rest != 0 || e != api.ErrBadArg {
				t.Fatalf("MulDiv(%d, %d, 0) = %d, %d, %d, want 0, 0, ErrBadArg", a, b, n, rest, e)
			}
		}
	}
}

// a triple of ints, and what MulDiv must answer of it
type triple struct {
	a, b, c        int
	quotient, rest int
	e              api.Errno
}

func holdTriples(t *testing.T, l []triple) {
	t.Helper()
	for _, c := range l {
		quotient, rest, e := checked.MulDiv(c.a, c.b, c.c)
		if quotient != c.quotient || rest != c.rest || e != c.e {
			t.Errorf("MulDiv(%d, %d, %d) = %d, %d, %d, want %d, %d, %d",
				c.a, c.b, c.c, quotient, rest, e, c.quotient, c.rest, c.e)
		}
	}
}

// MulDiv: an exact product, rounded down; beside an error, no quotient and no rest

func TestMulDiv(t *testing.T) {
	holdTriples(t, []triple{
		{7, 3, 2, 10, 1, api.OK},
		{-7, 3, 2, -11, 1, api.OK},
		{7, -3, 2, -11, 1, api.OK},
		{-7, -3, 2, 10, 1, api.OK},
		{7, 3, -2, -11, -1, api.OK},
		{-7, 3, -2, 10, -1, api.OK},
		{7, -3, -2, 10, -1, api.OK},
		{-7, -3, -2, -11, -1, api.OK},
		{4, 5, 7, 2, 6, api.OK},
		{-4, 5, 7, -3, 1, api.OK},
		{4, 5, -7, -3, -1, api.OK},
		{-4, 5, -7, 2, -6, api.OK},
		{4, 5, 10, 2, 0, api.OK},
		{-4, 5, 10, -2, 0, api.OK},
		{4, 5, -10, -2, 0, api.OK},
		{-4, 5, -10, 2, 0, api.OK},
		{0, least, -3, 0, 0, api.OK},
		{least, 0, 3, 0, 0, api.OK},
		{1 << 62, 3, 4, 3 << 60, 0, api.OK},
		{1 << 62, 8, 4, 0, 0, api.ErrRange},
		{1 << 62, 8, -4, least, 0, api.OK},
		{-1 << 62, 8, -4, 0, 0, api.ErrRange},
		{-1 << 62, 8, 4, least, 0, api.OK},
		{least, 1, -1, 0, 0, api.ErrRange},
		{least, -1, 1, 0, 0, api.ErrRange},
		{least, -1, -1, least, 0, api.OK},
		{least, 1, 1, least, 0, api.OK},
		{least, least, 1, 0, 0, api.ErrRange},
		{least, least, -1, 0, 0, api.ErrRange},
		{least, least, least, least, 0, api.OK},
		{least, least, most, 0, 0, api.ErrRange},
		{least, most, most, least, 0, api.OK},
		{least, most, -most, 0, 0, api.ErrRange},
		{most, most, most, most, 0, api.OK},
		{most, most, least, -most, -most, api.OK},
		{most, most, 2, 0, 0, api.ErrRange},
		{most, 3, 3, most, 0, api.OK},
		{1 << 32, 1 << 32, 2, 0, 0, api.ErrRange}, // 2^63, which wraps to -2^63
		{1 << 32, 1 << 32, -2, least, 0, api.OK},
		{1 << 32, 1 << 32, 1, 0, 0, api.ErrRange}, // 2^64, which wraps to 0
		{1 << 32, 1 << 32, 3, 6148914691236517205, 1, api.OK},
		{1 << 32, -1 << 32, 3, -6148914691236517206, 2, api.OK},
	})
}

// MulDiv: rounding down alone takes a quotient past the least int, or keeps it within

func TestMulDivAtTheLeast(t *testing.T) {
	holdTriples(t, []triple{
		{least, 3, 3, least, 0, api.OK},
		{least, 5, 4, 0, 0, api.ErrRange},
		{most, 3037000501, -3037000501, -most, 0, api.OK},
		{most, most, -most + 1, 0, 0, api.ErrRange}, // below -2^63 by less than 1: down is past it
		{most - 1, most, -most, -most + 1, 0, api.OK},
		{-1 << 61, 1<<61 + 1, 1 << 59, 0, 0, api.ErrRange}, // -2^63 - 4
		{-3, 1<<62 + 1, 2, -3<<61 - 2, 1, api.OK},
		{-2, 1<<62 + 1, 2, -1<<62 - 1, 0, api.OK},
		{-2, most, 3, -6148914691236517205, 1, api.OK},
		{most, -4, 4, -most, 0, api.OK},
		{-most, 1<<61 + 1, 1 << 61, 0, 0, api.ErrRange}, // down is -2^63 - 3
		{-most, 1<<62 + 1, 1 << 62, 0, 0, api.ErrRange}, // below -2^63 by less than 1: down is past it
		{most, 1<<62 + 1, 1 << 62, 0, 0, api.ErrRange},  // above 2^63 by less than 1: down is 2^63
		{-most, most, most - 1, 0, 0, api.ErrRange},     // below -2^63 by less than 1: down is past it
		{most - 1, most, most - 1, most, 0, api.OK},
		{1<<62 - 1, 1<<62 + 1, 1 << 61, most, (1 << 61) - 1, api.OK}, // below 2^63 by less than 1: down is within
		{1<<62 - 1, -1<<62 - 1, 1 << 61, least, 1, api.OK},           // above -2^63 by less than 1: down is the least
	})
}

// MulDiv: all triples; its quotient times the divisor and the rest is the product

func TestMulDivOfTriples(t *testing.T) {
	for _, a := range ints() {
		for _, b := range ints() {
			product := new(big.Int).Mul(large(a), large(b))
			for _, c := range ints() {
				if c != 0 {
					holdMulDiv(t, product, a, b, c)
				}
			}
		}
	}
}

func holdMulDiv(t *testing.T, product *big.Int, a, b, c int) {
	t.Helper()
	n, left, e := checked.MulDiv(a, b, c)
	quotient, rest := down(product, large(c))
	want, wantE := due(quotient)
	wantLeft := 0
	if wantE == api.OK {
		wantLeft = int(rest.Int64())
	}
	if n != want || left != wantLeft || e != wantE {
		t.Fatalf("MulDiv(%d, %d, %d) = %d, %d, %d, want %d, %d, %d", a, b, c, n, left, e, want, wantLeft, wantE)
	}
	if e != api.OK {
		return
	}
	back := new(big.Int).Mul(large(n), large(c))
	if back.Add(back, large(left)).Cmp(product) != 0 {
		t.Fatalf("MulDiv(%d, %d, %d) = %d, %d does not lead back", a, b, c, n, left)
	}
}
