// Package wide is layer 1, numbers of 128 bits: see shared/doc/01-wide.md.
package wide

import (
	"math/bits"
	"strings"

	"analemma/api"
)

const (
	longest = 64      // bytes that a text may have
	top     = 1 << 63 // the bit of Hi that says, signed, that a number is below 0
)

// Of shifts n's sign down all of Hi: two's complement goes on with it for ever.
func Of(n int) api.Wide {
	return api.Wide{Hi: uint64(n >> 63), Lo: uint64(n)}
}

// Int tries the low bits: a is an int just if these, made wide again, are all of a.
func Int(a api.Wide) (int, api.Errno) {
	n := int(a.Lo)
	if Of(n) != a {
		return 0, api.ErrRange
	}
	return n, api.OK
}

// Add serves signed numbers, too: modulo 2^128 their sum is the same.
func Add(a, b api.Wide) (api.Wide, bool) {
	lo, carry := bits.Add64(a.Lo, b.Lo, 0)
	hi, carry := bits.Add64(a.Hi, b.Hi, carry)
	return api.Wide{Hi: hi, Lo: lo}, carry != 0
}

// Sub serves signed numbers, too: modulo 2^128 their difference is the same.
func Sub(a, b api.Wide) (api.Wide, bool) {
	lo, borrow := bits.Sub64(a.Lo, b.Lo, 0)
	hi, borrow := bits.Sub64(a.Hi, b.Hi, borrow)
	return api.Wide{Hi: hi, Lo: lo}, borrow != 0
}

// Neg of 0 and of -2^127 is the number itself: 2^128 less it is the same, modulo 2^128.
func Neg(a api.Wide) api.Wide {
	n, _ := Sub(api.Wide{}, a)
	return n
}

// Mul cannot overflow: (2^64 - 1) squared is below 2^128.
func Mul(a, b uint64) api.Wide {
	hi, lo := bits.Mul64(a, b)
	return api.Wide{Hi: hi, Lo: lo}
}

// Div divides Hi first: its rest is below b, as bits.Div64 needs it so as not to panic.
func Div(a api.Wide, b uint64) (api.Wide, uint64, api.Errno) {
	if b == 0 {
		return api.Wide{}, 0, api.ErrBadArg
	}
	lo, rest := bits.Div64(a.Hi%b, a.Lo, b)
	return api.Wide{Hi: a.Hi / b, Lo: lo}, rest, api.OK
}

// Cmp asks Sub, which borrows just if a is the lesser one, from 0 on.
func Cmp(a, b api.Wide) int {
	if a == b {
		return 0
	}
	if _, below := Sub(a, b); below {
		return -1
	}
	return 1
}

// Signed turns the highest bits round, so that those below 0 come ahead of the others.
func Signed(a, b api.Wide) int {
	a.Hi ^= top
	b.Hi ^= top
	return Cmp(a, b)
}

// Text takes the last digits first, and so fills its room from the end on.
func Text(a api.Wide) string {
	var room [40]byte // -2^127 has 39 digits and a sign
	at := len(room)
	rest := amount(a)
	for {
		var digit uint64
		rest, digit, _ = Div(rest, 10)
		at--
		room[at] = '0' + byte(digit)
		if rest == (api.Wide{}) {
			break
		}
	}
	if negative(a) {
		at--
		room[at] = '-'
	}
	return string(room[at:])
}

// Parse looks at the whole form ahead of the size: ErrSyntax has the lesser number.
func Parse(s string) (api.Wide, api.Errno) {
	if len(s) > longest {
		return api.Wide{}, api.ErrTooBig
	}
	digits, minus := strings.CutPrefix(s, "-")
	if !plain(digits) || minus && digits == "0" {
		return api.Wide{}, api.ErrSyntax
	}
	a, fits := unsigned(digits)
	if minus {
		a = Neg(a)
	}
	// An amount that is too great for its sign shows the other one. Neg leaves -2^127 below 0, as it must.
	if !fits || negative(a) != minus {
		return api.Wide{}, api.ErrRange
	}
	return a, api.OK
}

func negative(a api.Wide) bool {
	return a.Hi&top != 0
}

// amount is told from 0 on: that of -2^127 has no place among the signed ones.
func amount(a api.Wide) api.Wide {
	if negative(a) {
		return Neg(a)
	}
	return a
}

// plain tells whether s is one or more digits, with no 0 ahead of another.
func plain(s string) bool {
	if s == "" || s[0] == '0' && len(s) > 1 {
		return false
	}
	for _, c := range []byte(s) {
		if c < '0' || c > '9' {
			return false
		}
	}
	return true
}

// unsigned reads digits, and tells whether they are below 2^128.
func unsigned(digits string) (api.Wide, bool) {
	var a api.Wide
	for _, c := range []byte(digits) {
		var fits bool
		if a, fits = grow(a, uint64(c-'0')); !fits {
			return api.Wide{}, false
		}
	}
	return a, true
}

// grow puts one digit behind a's, and tells whether that is below 2^128.
func grow(a api.Wide, digit uint64) (api.Wide, bool) {
	high := Mul(a.Hi, 10)
	tens, past := Add(api.Wide{Hi: high.Lo}, Mul(a.Lo, 10))
	sum, over := Add(tens, api.Wide{Lo: digit})
	return sum, high.Hi == 0 && !past && !over
}
