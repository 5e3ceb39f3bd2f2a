package dec

import (
	"bytes"

	"numeral/api"
	"numeral/nat"
)

// Add is the sum: ErrMany, if it, or one of both, told with the lesser of their exponents, is too long.
func Add(a, b api.Dec) (api.Dec, api.Errno) {
	if e := checkBoth(a, b); e != api.OK {
		return api.Dec{}, e
	}
	switch {
	case isNought(a) && isNought(b):
		return api.Dec{Neg: a.Neg && b.Neg}, api.OK
	case isNought(a):
		return copied(b), api.OK
	case isNought(b):
		return copied(a), api.OK
	}
	exp := min(a.Exp, b.Exp)
	size := max(toldSize(a, exp), toldSize(b, exp))
	if size > api.MaxText {
		return api.Dec{}, api.ErrMany
	}
	// One nought ahead of both, so that a carry has its place.
	x, y := told(a, exp, 1+size), told(b, exp, 1+size)
	if a.Neg != b.Neg {
		return difference(a.Neg, x, y, exp)
	}
	addInto(x, y)
	if x[0] == '0' {
		x = x[1:]
	}
	return Make(a.Neg, string(x), exp)
}

// difference is x less y, with x's sign; it writes over one of them.
func difference(neg bool, x, y []byte, exp int) (api.Dec, api.Errno) {
	switch bytes.Compare(x, y) {
	case 0:
		return api.Dec{}, api.OK
	case -1:
		x, y, neg = y, x, !neg
	}
	takeInto(x, y)
	return Make(neg, string(x[1:]), exp)
}

// toldSize is how many digits d has, told with the exponent exp.
func toldSize(d api.Dec, exp int) int { return len(d.Digits) + d.Exp - exp }

// told is d's digits, told with the exponent exp, in so many bytes, noughts ahead.
func told(d api.Dec, exp, size int) []byte {
	digits := noughts(size)
	copy(digits[size-toldSize(d, exp):], d.Digits)
	return digits
}

// noughts is so many digits 0.
func noughts(size int) []byte { return bytes.Repeat([]byte{'0'}, size) }

// addInto adds the digits of src to those of dst, which are as many; nothing is carried beyond them.
func addInto(dst, src []byte) {
	carry := byte(0)
	for i := len(dst) - 1; i >= 0; i-- {
		digit := dst[i] - '0' + src[i] - '0' + carry
		carry = digit / 10
		dst[i] = '0' + digit%10
	}
}

// takeInto takes the digits of src from those of dst, which are as many and no less. It adds what lacks to nine and 1, so that the carry is never below nought.
func takeInto(dst, src []byte) {
	carry := byte(1)
	for i := len(dst) - 1; i >= 0; i-- {
		digit := dst[i] - '0' + '9' - src[i] + carry
		carry = digit / 10
		dst[i] = '0' + digit%10
	}
}

// Mul is the product: ErrMany, if it has too many digits, or its exponent is beyond the ends. (Two numbers of MaxText digits are together far from MaxLimbs limbs.)
func Mul(a, b api.Dec) (api.Dec, api.Errno) {
	if e := checkBoth(a, b); e != api.OK {
		return api.Dec{}, e
	}
	neg := a.Neg != b.Neg
	if isNought(a) || isNought(b) {
		return api.Dec{Neg: neg}, api.OK
	}
	product, e := nat.Mul(number(a), number(b))
	if e != api.OK {
		return api.Dec{}, e
	}
	return ofWhole(neg, product, a.Exp+b.Exp)
}
