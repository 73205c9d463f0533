package round_test

// Each test names the promise that it holds (shared/doc/05-round.md). What the
// numbers should be is told by math/big, from the chapter's words for each mode,
// beside values that are written out by hand.

import (
	"math"
	"math/big"
	"testing"

	"analemma/api"
	"analemma/dur"
	"analemma/round"
	"analemma/wide"
)

const (
	most     = math.MaxInt
	least    = math.MinInt
	all      = math.MaxUint64
	lastNano = 999999999
	modes    = 9
)

// notModes are numbers that are none.
func notModes() []int {
	return []int{least, -9, -2, -1, 9, 10, 256, 1 << 32, most}
}

func pow(n uint) *big.Int {
	return new(big.Int).Lsh(big.NewInt(1), n)
}

func plus(n *big.Int, by int64) *big.Int {
	return new(big.Int).Add(n, big.NewInt(by))
}

// bits128 is n as a signed number, of which n is one.
func bits128(n *big.Int) api.Wide {
	n = new(big.Int).Mod(n, pow(128))
	lo := new(big.Int).Mod(n, pow(64))
	return api.Wide{Hi: new(big.Int).Rsh(n, 64).Uint64(), Lo: lo.Uint64()}
}

// signed is the number that a is, signed.
func signed(a api.Wide) *big.Int {
	n := new(big.Int).Lsh(new(big.Int).SetUint64(a.Hi), 64)
	n.Add(n, new(big.Int).SetUint64(a.Lo))
	if a.Hi>>63 != 0 {
		n.Sub(n, pow(128))
	}
	return n
}

// due is n rounded to unit, which is above 0, word for word as the chapter tells it.
func due(n, unit *big.Int, mode int) *big.Int {
	quotient, rest := new(big.Int).DivMod(n, unit, new(big.Int)) // down: unit is above 0
	floor := new(big.Int).Sub(n, rest)
	if rest.Sign() == 0 {
		return floor
	}
	ceil := new(big.Int).Add(floor, unit)
	toZero, fromZero := floor, ceil
	if floor.CmpAbs(ceil) > 0 {
		toZero, fromZero = ceil, floor
	}
	if mode >= api.HalfEven {
		toFloor, toCeil := rest, new(big.Int).Sub(ceil, n)
		switch toFloor.Cmp(toCeil) {
		case -1:
			return floor
		case 1:
			return ceil
		}
	}
	switch mode {
	case api.Floor, api.HalfFloor:
		return floor
	case api.Ceil, api.HalfCeil:
		return ceil
	case api.Trunc, api.HalfDown:
		return toZero
	case api.Expand, api.HalfUp:
		return fromZero
	}
	if quotient.Bit(0) == 0 {
		return floor
	}
	return ceil
}

// units are such as are rounded to: small ones, powers with their neighbours, 1 and 2^80, and such as have
// all low bits set, or none. All of them may be handed in.
func units() []*big.Int {
	l := []*big.Int{big.NewInt(1), big.NewInt(10), big.NewInt(60), big.NewInt(1e9), big.NewInt(86400e9)}
	for _, n := range []uint{1, 2, 3, 31, 32, 33, 62, 63, 64, 65, 66, 70, 79} {
		l = append(l, pow(n), plus(pow(n), 1), plus(pow(n+1), -1))
	}
	for _, n := range []uint{63, 64, 65, 72} { // the high bits alone, or nearly
		top := new(big.Int).Mul(big.NewInt(0xb5), pow(n-1))
		l = append(l, top, plus(top, 1), plus(top, -1))
	}
	return append(l, pow(80))
}

// numbers are those about 0, the range's edges, and for a unit: multiples of it of all sizes, halves and others between,
// each with its neighbours. All of them may be handed in.
func numbers(unit *big.Int) []*big.Int {
	edge := pow(100)
	middles := []*big.Int{new(big.Int), new(big.Int).Set(edge)}
	last := new(big.Int).Quo(edge, unit)
	for _, quotient := range []*big.Int{big.NewInt(1), big.NewInt(2), big.NewInt(3), pow(19), plus(pow(19), 1), pow(35), plus(pow(35), -1), pow(63), pow(64), plus(last, -2), plus(last, -1), last} {
		multiple := new(big.Int).Mul(quotient, unit)
		half := new(big.Int).Add(multiple, new(big.Int).Rsh(unit, 1))
		third := new(big.Int).Add(multiple, new(big.Int).Quo(unit, big.NewInt(3)))
		middles = append(middles, multiple, half, third)
	}
	var l []*big.Int
	for _, middle := range middles {
		for by := int64(-2); by <= 2; by++ {
			n := plus(middle, by)
			if n.CmpAbs(edge) <= 0 {
				l = append(l, n, new(big.Int).Neg(n))
			}
		}
	}
	return l
}

// 5.1: the chapter's example, and others written out by hand: each by all modes, in their order

func TestWideByAllModes(t *testing.T) {
	for _, c := range []struct {
		n, unit int
		want    [modes]int
	}{
		// Floor, Ceil, Trunc, Expand, HalfEven, HalfUp, HalfDown, HalfFloor, HalfCeil
		{-15, 10, [modes]int{-20, -10, -10, -20, -20, -20, -10, -20, -10}},
		{15, 10, [modes]int{10, 20, 10, 20, 20, 20, 10, 10, 20}},
		{25, 10, [modes]int{20, 30, 20, 30, 20, 30, 20, 20, 30}},
		{-25, 10, [modes]int{-30, -20, -20, -30, -20, -30, -20, -30, -20}},
		{5, 10, [modes]int{0, 10, 0, 10, 0, 10, 0, 0, 10}},
		{-5, 10, [modes]int{-10, 0, 0, -10, 0, -10, 0, -10, 0}},
		{4, 10, [modes]int{0, 10, 0, 10, 0, 0, 0, 0, 0}},
		{-4, 10, [modes]int{-10, 0, 0, -10, 0, 0, 0, 0, 0}},
		{6, 10, [modes]int{0, 10, 0, 10, 10, 10, 10, 10, 10}},
		{-6, 10, [modes]int{-10, 0, 0, -10, -10, -10, -10, -10, -10}},
		{14, 10, [modes]int{10, 20, 10, 20, 10, 10, 10, 10, 10}},
		{16, 10, [modes]int{10, 20, 10, 20, 20, 20, 20, 20, 20}},
		{-14, 10, [modes]int{-20, -10, -10, -20, -10, -10, -10, -10, -10}},
		{-16, 10, [modes]int{-20, -10, -10, -20, -20, -20, -20, -20, -20}},
		{-20, 10, [modes]int{-20, -20, -20, -20, -20, -20, -20, -20, -20}},
		{30, 10, [modes]int{30, 30, 30, 30, 30, 30, 30, 30, 30}},
		{0, 10, [modes]int{}},
		{1, 2, [modes]int{0, 2, 0, 2, 0, 2, 0, 0, 2}},
		{-1, 2, [modes]int{-2, 0, 0, -2, 0, -2, 0, -2, 0}},
		{3, 2, [modes]int{2, 4, 2, 4, 4, 4, 2, 2, 4}},
		{7, 3, [modes]int{6, 9, 6, 9, 6, 6, 6, 6, 6}}, // no halves
		{8, 3, [modes]int{6, 9, 6, 9, 9, 9, 9, 9, 9}},
		{-7, 3, [modes]int{-9, -6, -6, -9, -6, -6, -6, -6, -6}},
		{-8, 3, [modes]int{-9, -6, -6, -9, -9, -9, -9, -9, -9}},
		{7, 1, [modes]int{7, 7, 7, 7, 7, 7, 7, 7, 7}},
		{-7, 1, [modes]int{-7, -7, -7, -7, -7, -7, -7, -7, -7}},
		{7, 7, [modes]int{7, 7, 7, 7, 7, 7, 7, 7, 7}},
		{7, 1 << 60, [modes]int{0, 1 << 60, 0, 1 << 60, 0, 0, 0, 0, 0}},
		{1 << 59, 1 << 60, [modes]int{0, 1 << 60, 0, 1 << 60, 0, 1 << 60, 0, 0, 1 << 60}},
	} {
		for mode, want := range c.want {
			n, e := round.Wide(wide.Of(c.n), wide.Of(c.unit), mode)
			if n != wide.Of(want) || e != api.OK {
				t.Errorf("Wide(%d, %d, %d) = %s, %d, want %d", c.n, c.unit, mode, wide.Text(n), e, want)
			}
		}
	}
}

// 5.1: the modes by their names

func TestModes(t *testing.T) {
	for _, c := range []struct {
		mode, odd, even int // of -15 and of 25, to 10
	}{
		{api.Floor, -20, 20}, {api.Ceil, -10, 30}, {api.Trunc, -10, 20}, {api.Expand, -20, 30},
		{api.HalfEven, -20, 20}, {api.HalfUp, -20, 30}, {api.HalfDown, -10, 20},
		{api.HalfFloor, -20, 20}, {api.HalfCeil, -10, 30},
	} {
		odd, e := round.Wide(wide.Of(-15), wide.Of(10), c.mode)
		even, f := round.Wide(wide.Of(25), wide.Of(10), c.mode)
		if odd != wide.Of(c.odd) || even != wide.Of(c.even) || e != api.OK || f != api.OK {
			t.Errorf("mode %d: %s, %d and %s, %d", c.mode, wide.Text(odd), e, wide.Text(even), f)
		}
	}
}

// 5.1: the edges of n and unit, and one past each

func TestWideAtTheEdges(t *testing.T) {
	end, unit := api.Wide{Hi: 1 << 36}, api.Wide{Hi: 1 << 16} // 2^100, 2^80
	one := wide.Of(1)
	next := func(a api.Wide, by int) api.Wide {
		sum, _ := wide.Add(a, wide.Of(by))
		return sum
	}
	for _, c := range []struct {
		n, unit api.Wide
		mode    int
		want    api.Wide
		e       api.Errno
	}{
		{end, one, api.Floor, end, api.OK},
		{end, unit, api.Floor, end, api.OK},
		{next(end, -1), unit, api.Floor, api.Wide{Hi: 1<<36 - 1<<16}, api.OK},
		{next(end, -1), unit, api.Ceil, end, api.OK},
		{next(end, 1), one, api.Floor, api.Wide{}, api.ErrBadArg},
		{next(end, 1), unit, api.Floor, api.Wide{}, api.ErrBadArg},
		{wide.Neg(end), one, api.Ceil, wide.Neg(end), api.OK},
		{wide.Neg(end), unit, api.Trunc, wide.Neg(end), api.OK},
		{wide.Neg(next(end, -1)), unit, api.Ceil, wide.Neg(api.Wide{Hi: 1<<36 - 1<<16}), api.OK},
		{wide.Neg(next(end, -1)), unit, api.Expand, wide.Neg(end), api.OK},
		{wide.Neg(next(end, 1)), one, api.Ceil, api.Wide{}, api.ErrBadArg},
		{wide.Neg(next(end, 1)), unit, api.Ceil, api.Wide{}, api.ErrBadArg},
		{one, next(unit, -1), api.Ceil, next(unit, -1), api.OK},
		{one, next(unit, 1), api.Ceil, api.Wide{}, api.ErrBadArg},
		{api.Wide{}, next(unit, 1), api.Floor, api.Wide{}, api.ErrBadArg},
		{one, api.Wide{Hi: 1 << 17}, api.Floor, api.Wide{}, api.ErrBadArg},
		{one, api.Wide{Hi: all >> 1, Lo: all}, api.Floor, api.Wide{}, api.ErrBadArg},
		{one, api.Wide{}, api.Floor, api.Wide{}, api.ErrBadArg},
		{api.Wide{}, api.Wide{}, api.Floor, api.Wide{}, api.ErrBadArg},
		{one, wide.Of(-1), api.Floor, api.Wide{}, api.ErrBadArg},
		{one, wide.Of(-10), api.Floor, api.Wide{}, api.ErrBadArg},
		{one, api.Wide{Hi: 1 << 63}, api.Floor, api.Wide{}, api.ErrBadArg},
		{one, wide.Neg(unit), api.Floor, api.Wide{}, api.ErrBadArg},
		{api.Wide{Hi: 1 << 63}, one, api.Floor, api.Wide{}, api.ErrBadArg},
		{api.Wide{Hi: all >> 1, Lo: all}, one, api.Floor, api.Wide{}, api.ErrBadArg},
		// What is rounded may leave the range of what may be rounded, by less than a unit.
		{end, wide.Of(3), api.Ceil, next(end, 2), api.OK},
		{wide.Neg(end), wide.Of(3), api.Floor, wide.Neg(next(end, 2)), api.OK},
		{end, next(unit, -1), api.Expand, api.Wide{Hi: 1<<36 + 1<<16 - 1, Lo: all - 1<<20}, api.OK}, // 2^20 + 1 units
	} {
		got, e := round.Wide(c.n, c.unit, c.mode)
		if got != c.want || e != c.e {
			t.Errorf("Wide(%v, %v, %d) = %v, %d, want %v, %d", c.n, c.unit, c.mode, got, e, c.want, c.e)
		}
	}
}

// 5.1: ErrBadArg, unless mode is 0 to 8

func TestWideOfNoMode(t *testing.T) {
	for _, mode := range notModes() {
		for _, n := range []int{0, 10, -15, 15} {
			if got, e := round.Wide(wide.Of(n), wide.Of(10), mode); got != (api.Wide{}) || e != api.ErrBadArg {
				t.Errorf("Wide(%d, 10, %d) = %v, %d, want ErrBadArg", n, mode, got, e)
			}
		}
	}
}

// 5.1 and 5.3: all numbers, to all units, by all modes

func TestWideOfAllSizes(t *testing.T) {
	for _, unit := range units() {
		for _, n := range numbers(unit) {
			for mode := range modes {
				want := due(n, unit, mode)
				got, e := round.Wide(bits128(n), bits128(unit), mode)
				if got != bits128(want) || e != api.OK {
					t.Fatalf("Wide(%v, %v, %d) = %v, %d, want %v", n, unit, mode, signed(got), e, want)
				}
				holdRounded(t, n, unit, mode, got)
			}
		}
	}
}

// holdRounded holds 5.3: rounding again changes nothing, and the way is less than a unit, or at most half of one.
func holdRounded(t *testing.T, n, unit *big.Int, mode int, got api.Wide) {
	t.Helper()
	way := new(big.Int).Sub(signed(got), n)
	way.Abs(way)
	if mode >= api.HalfEven {
		way.Lsh(way, 1)
		way.Sub(way, big.NewInt(1))
	}
	if way.Cmp(unit) >= 0 {
		t.Fatalf("Wide(%v, %v, %d) = %v: too far", n, unit, mode, signed(got))
	}
	again, e := round.Wide(got, bits128(unit), mode)
	if signed(got).CmpAbs(pow(100)) > 0 { // this may not be handed in
		if again != (api.Wide{}) || e != api.ErrBadArg {
			t.Fatalf("Wide(%v, %v, %d) = %v, %d, want ErrBadArg", signed(got), unit, mode, signed(again), e)
		}
	} else if again != got || e != api.OK {
		t.Fatalf("Wide(%v, %v, %d) = %v, %d: changed by rounding again", signed(got), unit, mode, signed(again), e)
	}
}

// 5.1: numbers that make the quotient's last bits come out of all kinds of units of more than 64 bits

func TestWideToGreatUnits(t *testing.T) {
	step, unit := big.NewInt(0x5851f42d4c957f2d), plus(pow(64), 12345)
	for range 2000 {
		unit = new(big.Int).Mod(new(big.Int).Mul(unit, step), pow(80))
		if unit.BitLen() <= 64 {
			unit.Add(unit, pow(64))
		}
		quotient := new(big.Int).Quo(pow(100), unit)
		for _, q := range []*big.Int{quotient, plus(quotient, -1), new(big.Int).Rsh(quotient, 1)} {
			multiple := new(big.Int).Mul(q, unit)
			for by := int64(-1); by <= 1; by++ {
				n := plus(multiple, by)
				half := new(big.Int).Sub(n, new(big.Int).Rsh(unit, 1))
				for mode := range modes {
					for _, m := range []*big.Int{n, new(big.Int).Neg(n), half, new(big.Int).Neg(half)} {
						if m.CmpAbs(pow(100)) > 0 {
							continue
						}
						want := due(m, unit, mode)
						if got, e := round.Wide(bits128(m), bits128(unit), mode); got != bits128(want) || e != api.OK {
							t.Fatalf("Wide(%v, %v, %d) = %v, %d, want %v", m, unit, mode, signed(got), e, want)
						}
					}
				}
			}
		}
	}
}

// secs are the ranges' edges, int's edges, and others.
func secs() []int {
	return []int{
		least, -1 << 55, -api.MaxDur - 1, -api.MaxDur, -api.MaxDur + 1, api.MinSec - 1, api.MinSec, api.MinSec + 1,
		-9223372037, -86400, -5400, -1, 0, 1, 5400, 43200, 86399, 9223372036,
		api.MaxSec - 1, api.MaxSec, api.MaxSec + 1, api.MaxDur - 1, api.MaxDur, api.MaxDur + 1, 1 << 55, most,
	}
}

// nanos are such as may be and such as may not.
func nanos() []int {
	return []int{least, -1, 0, 1, 499999999, 500000000, 500000001, lastNano, 1000000000, most}
}

// lengths are units, also such as may not be.
func lengths() []api.Dur {
	l := []api.Dur{
		{Nano: 2}, {Nano: 3}, {Nano: 1000}, {Nano: 250000000}, {Sec: 1, Nano: 500000000}, {Sec: 60}, {Sec: 3600}, {Sec: 7 * 86400},
		{Sec: 18446744073, Nano: 709551615}, {Sec: 18446744073, Nano: 709551616}, {Sec: 18446744073, Nano: 709551617}, // 2^64 ns
	}
	for _, sec := range secs() {
		for _, nano := range nanos() {
			l = append(l, api.Dur{Sec: sec, Nano: nano})
		}
	}
	return l
}

// whole is all of sec and nano, in nanoseconds.
func whole(sec, nano int) *big.Int {
	n := new(big.Int).Mul(big.NewInt(int64(sec)), big.NewInt(1e9))
	return n.Add(n, big.NewInt(int64(nano)))
}

// a range of values, in nanoseconds
type span struct{ first, last *big.Int }

func instants() span {
	return span{whole(api.MinSec, 0), whole(api.MaxSec, lastNano)}
}

func durations() span {
	return span{whole(-api.MaxDur, 0), whole(api.MaxDur, 0)}
}

func (s span) has(n *big.Int) bool {
	return s.first.Cmp(n) <= 0 && n.Cmp(s.last) <= 0
}

// dueParts is what is answered of seconds and nanoseconds of a range.
func (s span) dueParts(sec, nano int, unit api.Dur, mode int) (int, int, api.Errno) {
	ill := func(nano int) bool { return nano < 0 || nano > lastNano }
	n, size := whole(sec, nano), whole(unit.Sec, unit.Nano)
	if ill(nano) || ill(unit.Nano) || size.Sign() <= 0 || mode < 0 || mode >= modes {
		return 0, 0, api.ErrBadArg
	}
	if !s.has(n) || !durations().has(size) {
		return 0, 0, api.ErrRange
	}
	rounded := due(n, size, mode)
	if !s.has(rounded) {
		return 0, 0, api.ErrRange
	}
	seconds, rest := new(big.Int).DivMod(rounded, big.NewInt(1e9), new(big.Int))
	return int(seconds.Int64()), int(rest.Int64()), api.OK
}

// 5.2: Instant, by hand

func TestInstant(t *testing.T) {
	for _, c := range []struct {
		i    api.Instant
		unit api.Dur
		mode int
		want api.Instant
		e    api.Errno
	}{
		{api.Instant{Sec: -1, Nano: lastNano}, api.Dur{Sec: 1}, api.Ceil, api.Instant{}, api.OK}, // -1 ns, up to seconds
		{api.Instant{Sec: -1, Nano: lastNano}, api.Dur{Sec: 1}, api.Floor, api.Instant{Sec: -1}, api.OK},
		{api.Instant{Sec: -1, Nano: lastNano}, api.Dur{Sec: 1}, api.Expand, api.Instant{Sec: -1}, api.OK},
		{api.Instant{Sec: -1, Nano: lastNano}, api.Dur{Nano: 1}, api.Floor, api.Instant{Sec: -1, Nano: lastNano}, api.OK},
		{api.Instant{Sec: 5400}, api.Dur{Sec: 3600}, api.HalfEven, api.Instant{Sec: 7200}, api.OK},
		{api.Instant{Sec: 9000}, api.Dur{Sec: 3600}, api.HalfEven, api.Instant{Sec: 7200}, api.OK},
		{api.Instant{Sec: 9000}, api.Dur{Sec: 3600}, api.HalfUp, api.Instant{Sec: 10800}, api.OK},
		{api.Instant{Sec: -5400}, api.Dur{Sec: 3600}, api.HalfDown, api.Instant{Sec: -3600}, api.OK},
		{api.Instant{Sec: -5400}, api.Dur{Sec: 3600}, api.Trunc, api.Instant{Sec: -3600}, api.OK},
		{api.Instant{Sec: 3, Nano: 141592653}, api.Dur{Nano: 1000}, api.HalfEven, api.Instant{Sec: 3, Nano: 141593000}, api.OK},
		{api.Instant{Sec: 3, Nano: 999999500}, api.Dur{Nano: 1000}, api.HalfEven, api.Instant{Sec: 4}, api.OK},
		{api.Instant{Sec: 3, Nano: 141592653}, api.Dur{Sec: 1, Nano: 500000000}, api.Floor, api.Instant{Sec: 3}, api.OK},
		{api.Instant{Sec: 4, Nano: 141592653}, api.Dur{Sec: 1, Nano: 500000000}, api.Ceil, api.Instant{Sec: 4, Nano: 500000000}, api.OK},
		{api.Instant{Sec: api.MaxSec, Nano: lastNano}, api.Dur{Nano: 1}, api.Expand, api.Instant{Sec: api.MaxSec, Nano: lastNano}, api.OK},
		{api.Instant{Sec: api.MaxSec, Nano: lastNano}, api.Dur{Sec: 1}, api.Floor, api.Instant{Sec: api.MaxSec}, api.OK},
		{api.Instant{Sec: api.MaxSec, Nano: lastNano}, api.Dur{Sec: 1}, api.Ceil, api.Instant{}, api.ErrRange},
		{api.Instant{Sec: api.MaxSec, Nano: 500000000}, api.Dur{Sec: 1}, api.HalfDown, api.Instant{Sec: api.MaxSec}, api.OK},
		{api.Instant{Sec: api.MaxSec, Nano: 500000000}, api.Dur{Sec: 1}, api.HalfUp, api.Instant{}, api.ErrRange},
		{api.Instant{Sec: api.MaxSec}, api.Dur{Sec: 86400}, api.Ceil, api.Instant{}, api.ErrRange},
		{api.Instant{Sec: api.MaxSec}, api.Dur{Sec: 86400}, api.Floor, api.Instant{Sec: api.MaxSec - 86399}, api.OK},
		{api.Instant{Sec: api.MinSec}, api.Dur{Sec: 86400}, api.Floor, api.Instant{Sec: api.MinSec}, api.OK}, // a day's beginning
		{api.Instant{Sec: api.MinSec, Nano: 1}, api.Dur{Sec: 86400}, api.Floor, api.Instant{Sec: api.MinSec}, api.OK},
		{api.Instant{Sec: api.MinSec, Nano: 1}, api.Dur{Sec: 7 * 86400}, api.Floor, api.Instant{}, api.ErrRange},
		{api.Instant{Sec: api.MinSec, Nano: 1}, api.Dur{Sec: api.MaxDur}, api.HalfFloor, api.Instant{}, api.OK},
		{api.Instant{Sec: api.MinSec, Nano: 1}, api.Dur{Sec: api.MaxDur}, api.Floor, api.Instant{}, api.ErrRange},
		{api.Instant{Sec: api.MaxSec}, api.Dur{Sec: api.MaxDur}, api.Ceil, api.Instant{}, api.ErrRange},
		{api.Instant{Sec: api.MaxSec}, api.Dur{Sec: api.MaxDur}, api.Trunc, api.Instant{}, api.OK},
	} {
		if got, e := round.Instant(c.i, c.unit, c.mode); got != c.want || e != c.e {
			t.Errorf("Instant(%v, %v, %d) = %v, %d, want %v, %d", c.i, c.unit, c.mode, got, e, c.want, c.e)
		}
	}
}

// 5.2: Dur, by hand

func TestDur(t *testing.T) {
	first, last := api.Dur{Sec: -api.MaxDur}, api.Dur{Sec: api.MaxDur}
	for _, c := range []struct {
		d, unit api.Dur
		mode    int
		want    api.Dur
		e       api.Errno
	}{
		{api.Dur{Sec: -1, Nano: 500000000}, api.Dur{Sec: 1}, api.HalfUp, api.Dur{Sec: -1}, api.OK},
		{api.Dur{Sec: -1, Nano: 500000000}, api.Dur{Sec: 1}, api.HalfDown, api.Dur{}, api.OK},
		{api.Dur{Sec: -1, Nano: 500000000}, api.Dur{Sec: 1}, api.HalfEven, api.Dur{}, api.OK},
		{api.Dur{Sec: -2, Nano: 500000000}, api.Dur{Sec: 1}, api.HalfEven, api.Dur{Sec: -2}, api.OK},
		{api.Dur{Sec: -1, Nano: lastNano}, api.Dur{Sec: 1}, api.Ceil, api.Dur{}, api.OK},
		{api.Dur{Nano: 1}, api.Dur{Sec: 1}, api.Expand, api.Dur{Sec: 1}, api.OK},
		{api.Dur{Sec: 100}, api.Dur{Sec: 60}, api.HalfEven, api.Dur{Sec: 120}, api.OK},
		{api.Dur{Sec: 89, Nano: lastNano}, api.Dur{Sec: 60}, api.HalfCeil, api.Dur{Sec: 60}, api.OK},
		{api.Dur{Sec: 90}, api.Dur{Sec: 60}, api.HalfCeil, api.Dur{Sec: 120}, api.OK},
		{api.Dur{Sec: 90}, api.Dur{Sec: 60}, api.HalfFloor, api.Dur{Sec: 60}, api.OK},
		{last, last, api.Floor, last, api.OK},
		{first, last, api.Ceil, first, api.OK},
		{last, api.Dur{Sec: 3}, api.Floor, api.Dur{Sec: api.MaxDur - 1}, api.OK},
		{last, api.Dur{Sec: 3}, api.Ceil, api.Dur{}, api.ErrRange},
		{last, api.Dur{Sec: 3}, api.HalfUp, api.Dur{Sec: api.MaxDur - 1}, api.OK},
		{first, api.Dur{Sec: 3}, api.Floor, api.Dur{}, api.ErrRange},
		{first, api.Dur{Sec: 3}, api.Ceil, api.Dur{Sec: 1 - api.MaxDur}, api.OK},
		{first, api.Dur{Sec: api.MaxDur - 1}, api.Expand, api.Dur{}, api.ErrRange},
		{first, api.Dur{Sec: api.MaxDur - 1}, api.Trunc, api.Dur{Sec: 1 - api.MaxDur}, api.OK},
		{api.Dur{Sec: api.MaxDur / 2}, last, api.HalfUp, last, api.OK},
		{api.Dur{Sec: api.MaxDur / 2}, last, api.HalfEven, api.Dur{}, api.OK},
		{api.Dur{Sec: -api.MaxDur / 2}, last, api.HalfUp, first, api.OK},
		{api.Dur{Nano: 1}, last, api.Ceil, last, api.OK},
		{api.Dur{Sec: -1, Nano: lastNano}, last, api.Floor, first, api.OK},
	} {
		if got, e := round.Dur(c.d, c.unit, c.mode); got != c.want || e != c.e {
			t.Errorf("Dur(%v, %v, %d) = %v, %d, want %v, %d", c.d, c.unit, c.mode, got, e, c.want, c.e)
		}
	}
}

// 5.2: ErrBadArg counts ahead of ErrRange, whichever of what is handed in makes it

func TestErrors(t *testing.T) {
	fine, past := api.Dur{Sec: 60}, api.Dur{Sec: api.MaxDur, Nano: 1}
	for _, c := range []struct {
		sec, nano int
		unit      api.Dur
		mode      int
		e         api.Errno
	}{
		{0, 0, fine, api.Floor, api.OK},
		{0, -1, fine, api.Floor, api.ErrBadArg},
		{0, 1000000000, fine, api.Floor, api.ErrBadArg},
		{most, -1, fine, api.Floor, api.ErrBadArg},
		{0, -1, past, api.Floor, api.ErrBadArg},
		{0, 0, api.Dur{}, api.Floor, api.ErrBadArg},
		{0, 0, api.Dur{Sec: -1}, api.Floor, api.ErrBadArg},
		{0, 0, api.Dur{Sec: -1, Nano: lastNano}, api.Floor, api.ErrBadArg},
		{0, 0, api.Dur{Sec: least}, api.Floor, api.ErrBadArg}, // out of range, and below 0
		{0, 0, api.Dur{Sec: 1, Nano: -1}, api.Floor, api.ErrBadArg},
		{0, 0, api.Dur{Sec: 1, Nano: 1000000000}, api.Floor, api.ErrBadArg},
		{0, 0, api.Dur{Nano: 1000000000}, api.Floor, api.ErrBadArg},
		{0, 0, api.Dur{Sec: most, Nano: 1000000000}, api.Floor, api.ErrBadArg},
		{0, 0, fine, -1, api.ErrBadArg},
		{0, 0, fine, 9, api.ErrBadArg},
		{0, 0, past, 9, api.ErrBadArg},
		{most, 0, fine, 9, api.ErrBadArg},
		{most, 0, api.Dur{}, api.Floor, api.ErrBadArg},
		{most, 0, api.Dur{Sec: -1}, api.Floor, api.ErrBadArg},
		{most, 0, fine, api.Floor, api.ErrRange},
		{least, 0, fine, api.Floor, api.ErrRange},
		{api.MaxDur, 1, fine, api.Floor, api.ErrRange}, // though the result is in range, of a duration
		{-api.MaxDur - 1, lastNano, fine, api.Ceil, api.ErrRange},
		{0, 0, past, api.Floor, api.ErrRange},
		{0, 0, api.Dur{Sec: most}, api.Floor, api.ErrRange},
		{most, 0, past, api.Floor, api.ErrRange},
	} {
		i, e := round.Instant(api.Instant{Sec: c.sec, Nano: c.nano}, c.unit, c.mode)
		if i != (api.Instant{}) || e != c.e {
			t.Errorf("Instant({%d, %d}, %v, %d) = %v, %d, want %d", c.sec, c.nano, c.unit, c.mode, i, e, c.e)
		}
		d, e := round.Dur(api.Dur{Sec: c.sec, Nano: c.nano}, c.unit, c.mode)
		if d != (api.Dur{}) || e != c.e {
			t.Errorf("Dur({%d, %d}, %v, %d) = %v, %d, want %d", c.sec, c.nano, c.unit, c.mode, d, e, c.e)
		}
	}
	for _, sec := range []int{api.MinSec - 1, api.MaxSec + 1} { // of instants alone
		i, e := round.Instant(api.Instant{Sec: sec}, fine, api.Trunc)
		d, f := round.Dur(api.Dur{Sec: sec}, fine, api.Trunc)
		if i != (api.Instant{}) || e != api.ErrRange || d == (api.Dur{}) || f != api.OK {
			t.Errorf("of second %d: %v, %d and %v, %d", sec, i, e, d, f)
		}
	}
}

// 5.2: all edges, to all units, by all modes and by numbers that are none

func TestAllEdges(t *testing.T) {
	for _, sec := range secs() {
		for _, nano := range nanos() {
			for _, unit := range lengths() {
				for mode := -1; mode <= modes; mode++ {
					holdParts(t, sec, nano, unit, mode)
				}
			}
		}
	}
	for _, mode := range notModes() {
		holdParts(t, 5, 0, api.Dur{Sec: 1}, mode)
	}
}

func holdParts(t *testing.T, sec, nano int, unit api.Dur, mode int) {
	t.Helper()
	wantSec, wantNano, wantE := instants().dueParts(sec, nano, unit, mode)
	i, e := round.Instant(api.Instant{Sec: sec, Nano: nano}, unit, mode)
	if i.Sec != wantSec || i.Nano != wantNano || e != wantE {
		t.Fatalf("Instant({%d, %d}, %v, %d) = %v, %d, want {%d, %d}, %d", sec, nano, unit, mode, i, e, wantSec, wantNano, wantE)
	}
	if e == api.OK {
		if again, f := round.Instant(i, unit, mode); again != i || f != api.OK { // 5.3
			t.Fatalf("Instant(%v, %v, %d) = %v, %d: changed by rounding again", i, unit, mode, again, f)
		}
	}
	wantSec, wantNano, wantE = durations().dueParts(sec, nano, unit, mode)
	d, e := round.Dur(api.Dur{Sec: sec, Nano: nano}, unit, mode)
	if d.Sec != wantSec || d.Nano != wantNano || e != wantE {
		t.Fatalf("Dur({%d, %d}, %v, %d) = %v, %d, want {%d, %d}, %d", sec, nano, unit, mode, d, e, wantSec, wantNano, wantE)
	}
	if e == api.OK {
		if again, f := round.Dur(d, unit, mode); again != d || f != api.OK { // 5.3
			t.Fatalf("Dur(%v, %v, %d) = %v, %d: changed by rounding again", d, unit, mode, again, f)
		}
	}
}

// 5.3: of durations, the way, as package dur tells it

func TestWayOfDurations(t *testing.T) {
	unit := api.Dur{Sec: 1, Nano: 500000000}
	for nano := 0; nano < 6000000000; nano += 125000000 {
		for mode := range modes {
			for _, sign := range []int{1, -1} {
				d, _ := dur.New(0, sign*nano)
				got, e := round.Dur(d, unit, mode)
				way, f := dur.Sub(got, d)
				if dur.Cmp(way, api.Dur{}) < 0 {
					way, _ = dur.Neg(way)
				}
				far := dur.Cmp(way, unit) >= 0
				if mode >= api.HalfEven {
					far = dur.Cmp(way, api.Dur{Nano: 750000000}) > 0
				}
				if far || e != api.OK || f != api.OK {
					t.Errorf("Dur(%v, %v, %d) = %v, %d: the way is %v", d, unit, mode, got, e, way)
				}
			}
		}
	}
}
