package round

import (
	"math/bits"

	"numeral/api"
	"numeral/forms"
	"numeral/nat"
)

// rounded is the float to which a dyadic rounds, and its flags; neg is the sign of nought.
func rounded(f api.Form, d api.Dyadic, neg bool, mode uint8) (uint64, uint8, api.Errno) {
	if isNought(d.Mant) {
		nought, e := forms.Nought(f, neg)
		return nought, 0, e
	}
	least, greatest, e := forms.Range(f)
	if e != api.OK {
		return 0, 0, e
	}
	length, e := nat.Bits(d.Mant)
	if e != api.OK {
		return 0, 0, e
	}
	// free is the exponent of a float's last bit, as if exponents had no lower end; last is the one that it has.
	free := d.Exp + length - 1 - f.Frac
	last := max(least, free)
	number, whole := cut(d, last, mode)
	if firstBit(number, last) > greatest {
		float, e := overflowed(f, d.Neg, mode)
		return float, api.FlagInexact | api.FlagOverflow, e
	}
	flags := uint8(0)
	if !whole {
		flags |= api.FlagInexact
		if isSmall(d, free, least+f.Frac, mode) {
			flags |= api.FlagUnderflow
		}
	}
	float, e := forms.Join(f, fields(d.Neg, number, last-least, f.Frac))
	return float, flags, e
}

// cut tells a dyadic without its sign as so many times 2 to the power of last, rounded, and whether that is all of it.
func cut(d api.Dyadic, last int, mode uint8) (number uint64, whole bool) {
	drop := last - d.Exp
	if drop <= 0 {
		number, _ = nat.Low(d.Mant)
		return number << -drop, true
	}
	kept, _ := nat.Down(d.Mant, drop)
	number, _ = nat.Low(kept)
	b := between{neg: d.Neg, odd: number&1 == 1, half: againstHalf(d.Mant, drop)}
	if b.farther(mode) {
		number++
	}
	return number, false
}

// againstHalf holds the lowest bits of an odd number, drop of them, one or more, against the half of what they count in all: -1, 0 or 1.
func againstHalf(odd api.Nat, drop int) int {
	first, _ := nat.Bit(odd, drop-1)
	switch {
	case !first:
		return -1
	case drop == 1:
		return 0
	}
	// The last bit of an odd number is set, and it is below the first one dropped.
	return 1
}

// firstBit is the exponent of two of the first bit of number times 2 to the power of last; below last, if number is nought.
func firstBit(number uint64, last int) int { return bits.Len64(number) - 1 + last }

// isSmall is whether a dyadic, rounded as if exponents had no lower end, is below the least normal float, 2 to the power of normal.
func isSmall(d api.Dyadic, free, normal int, mode uint8) bool {
	number, _ := cut(d, free, mode)
	return firstBit(number, free) < normal
}

// overflowed is the answer for what is beyond the greatest float: it lies between that and infinity, and nearer to infinity.
func overflowed(f api.Form, neg bool, mode uint8) (uint64, api.Errno) {
	b := between{neg: neg, half: 1}
	if b.farther(mode) {
		return forms.Inf(f, neg)
	}
	return forms.Greatest(f, neg)
}

// fields are those of the float that is worth number times 2 to the power of steps, in units of the least float. The bit ahead of the fraction, which just normal floats have, counts one in the exponent; where rounding carried beyond it, two, and the fraction is nought.
func fields(neg bool, number uint64, steps, frac int) api.Parts {
	ahead := number >> frac
	return api.Parts{Neg: neg, Exp: steps + int(ahead), Frac: number - ahead<<frac}
}
