package dec

import (
	"numeral/api"
	"numeral/nat"
	"numeral/ratio"
	"numeral/steps"
)

// maxBits is no fewer bits than MaxText digits may have, as 10^3 is below 2^10.
const maxBits = api.MaxText*10/3 + 1

// Ratio is the fraction that is worth as much: ErrMany, if its number, or its power of ten below the line, is too long ahead of lowest terms.
func Ratio(d api.Dec) (api.Ratio, api.Errno) {
	if e := Check(d); e != api.OK {
		return api.Ratio{}, e
	}
	var w steps.Run
	num := w.Nat(nat.Mul(number(d), w.Nat(nat.Pow(10, max(d.Exp, 0)))))
	den := w.Nat(nat.Pow(10, max(-d.Exp, 0)))
	if w.Err != api.OK {
		return api.Ratio{}, w.Err
	}
	return ratio.Make(d.Neg, num, den)
}

// Of is the decimal that is worth r, if r's lower number is made of twos and fives alone.
func Of(r api.Ratio) (api.Dec, bool, api.Errno) {
	if e := ratio.Check(r); e != api.OK {
		return api.Dec{}, false, e
	}
	if len(r.Num.Limbs) == 0 {
		return api.Dec{}, true, api.OK
	}
	left, tens := without(r.Den, nat.Of(10))
	left, twos := without(left, nat.Of(2))
	left, fives := without(left, nat.Of(5))
	if n, _ := nat.Low(left); n != 1 {
		return api.Dec{}, false, api.OK
	}
	// Each two lacks a five to be a ten, each five a two. A number that is too long here has too many digits, as it is no multiple of ten where one of these is no 1.
	var w steps.Run
	num := w.Nat(nat.Mul(r.Num, w.Nat(nat.Pow(5, twos))))
	num = w.Nat(nat.Up(num, fives))
	if w.Err != api.OK {
		return api.Dec{}, false, w.Err
	}
	d, e := ofWhole(r.Neg, num, -tens-twos-fives)
	return d, e == api.OK, e
}

// number is d's digits as a whole number. (Parse refuses no digits at all, and answers nought beside it, as it should be here.)
func number(d api.Dec) api.Nat {
	n, _, _ := nat.Parse(d.Digits)
	return n
}

// ofWhole is the decimal that is worth a whole number, which is not nought, times 10 to the power of exp.
func ofWhole(neg bool, num api.Nat, exp int) (api.Dec, api.Errno) {
	num, tens := without(num, nat.Of(10))
	// What is surely too long need not be told in tens.
	if n, e := nat.Bits(num); e != api.OK || n > maxBits {
		return api.Dec{}, api.ErrMany
	}
	digits, e := nat.Text(num)
	if e != api.OK {
		return api.Dec{}, e
	}
	return Make(neg, digits, exp+tens)
}

// without is x, which is not nought, without its factors of this kind, and how many they were. All but one or two of them are taken in pairs, and so on: a few quotients do for any number of them. It is for looking at alone, as it may be x's own memory.
func without(x, factor api.Nat) (api.Nat, int) {
	x, taken := takeOne(x, factor)
	if taken == 0 {
		return x, 0
	}
	// A square that is too long for a number is no factor of one.
	if square, e := nat.Mul(factor, factor); e == api.OK {
		less, pairs := without(x, square)
		x, taken = less, taken+2*pairs
	}
	x, last := takeOne(x, factor)
	return x, taken + last
}

// takeOne is x over a factor and 1, if it is one, else x and 0.
func takeOne(x, factor api.Nat) (api.Nat, int) {
	less, rest, e := nat.Div(x, factor)
	if e != api.OK || len(rest.Limbs) > 0 {
		return x, 0
	}
	return less, 1
}
