package exact

import (
	"cmp"

	"numeral/api"
	"numeral/nat"
)

// Cmp is -1, 0 or 1: a worth less than b, as much, more.
func Cmp(a, b api.Dyadic) (int, api.Errno) {
	if e := checkBoth(a, b); e != api.OK {
		return 0, e
	}
	side := sign(a)
	if other := sign(b); side != other {
		return cmp.Compare(side, other), api.OK
	}
	n, e := farther(a, b)
	return side * n, e
}

// sign is -1, 0 or 1: below nought, nought, above it.
func sign(d api.Dyadic) int {
	switch {
	case isNought(d.Mant):
		return 0
	case d.Neg:
		return -1
	}
	return 1
}

// farther is -1, 0 or 1, as a is nearer to nought than b, as far, farther.
func farther(a, b api.Dyadic) (int, api.Errno) {
	top, e := end(a)
	if e != api.OK {
		return 0, e
	}
	other, e := end(b)
	if e != api.OK {
		return 0, e
	}
	if top != other {
		return cmp.Compare(top, other), api.OK
	}
	// As both end at one bit, neither gets more bits here than the longer one has.
	x, y, e := together(a, b)
	if e != api.OK {
		return 0, e
	}
	return nat.Cmp(x, y)
}

// end is the exponent of the least power of two that is above d without its sign.
func end(d api.Dyadic) (int, api.Errno) {
	length, e := nat.Bits(d.Mant)
	return d.Exp + length, e
}

// together is the numbers of both, told with the lesser of their exponents.
func together(a, b api.Dyadic) (x, y api.Nat, e api.Errno) {
	exp := min(a.Exp, b.Exp)
	if x, e = told(a, exp); e != api.OK {
		return api.Nat{}, api.Nat{}, e
	}
	if y, e = told(b, exp); e != api.OK {
		return api.Nat{}, api.Nat{}, e
	}
	return x, y, api.OK
}

// told is d's number, told with the exponent exp. It is for looking at alone, as it may be d's own memory.
func told(d api.Dyadic, exp int) (api.Nat, api.Errno) {
	if d.Exp == exp {
		return d.Mant, api.OK
	}
	return nat.Up(d.Mant, d.Exp-exp)
}

// Add is the sum: ErrMany, if it, or one of both, told with the lesser of their exponents, is too long.
func Add(a, b api.Dyadic) (api.Dyadic, api.Errno) {
	if e := checkBoth(a, b); e != api.OK {
		return api.Dyadic{}, e
	}
	if isNought(a.Mant) {
		return copied(b), api.OK
	}
	if isNought(b.Mant) {
		return copied(a), api.OK
	}
	x, y, e := together(a, b)
	if e != api.OK {
		return api.Dyadic{}, e
	}
	neg, number, e := addSigned(a.Neg, x, b.Neg, y)
	if e != api.OK {
		return api.Dyadic{}, e
	}
	return Make(neg, number, min(a.Exp, b.Exp))
}

// addSigned is the sum of two numbers, each with a minus, if its neg is set: its sign, and its worth without it.
func addSigned(xNeg bool, x api.Nat, yNeg bool, y api.Nat) (bool, api.Nat, api.Errno) {
	if xNeg == yNeg {
		sum, e := nat.Add(x, y)
		return xNeg, sum, e
	}
	if rest, ok, e := nat.Sub(x, y); ok || e != api.OK {
		return xNeg, rest, e
	}
	rest, _, e := nat.Sub(y, x)
	return yNeg, rest, e
}

// Mul is the product: ErrMany, if it is too long, or its exponent would be beyond the ends.
func Mul(a, b api.Dyadic) (api.Dyadic, api.Errno) {
	if e := checkBoth(a, b); e != api.OK {
		return api.Dyadic{}, e
	}
	if isNought(a.Mant) || isNought(b.Mant) {
		return api.Dyadic{}, api.OK
	}
	// The product of odd numbers is odd: its exponent is known ahead of it.
	exp := a.Exp + b.Exp
	if beyondEnds(exp) {
		return api.Dyadic{}, api.ErrMany
	}
	product, e := nat.Mul(a.Mant, b.Mant)
	if e != api.OK {
		return api.Dyadic{}, e
	}
	return api.Dyadic{Neg: a.Neg != b.Neg, Mant: product, Exp: exp}, api.OK
}
