package soft

import (
	"math/bits"
	"slices"

	"numeral/api"
	"numeral/exact"
	"numeral/ratio"
	"numeral/round"
)

// number is finite and not nought. The exponents of floats lie so near together that nothing here is too long for the calls of exact, ratio and round: no error comes of them.
type number struct {
	worth api.Dyadic
	flags uint8
}

func (a number) plus(b float, mode uint8) float {
	switch b := b.(type) {
	case number:
		sum, _ := exact.Add(a.worth, b.worth)
		if isNought(sum.Mant) {
			return cancelled(mode)
		}
		return number{worth: sum}
	}
	return b.plus(a, mode)
}

func (a number) times(b float) float {
	switch b := b.(type) {
	case number:
		product, _ := exact.Mul(a.worth, b.worth)
		return number{worth: product}
	}
	return b.times(a)
}

func (a number) over(b float) float {
	switch b := b.(type) {
	case nought:
		return infinite{neg: otherSign(a, b), flags: api.FlagDivide}
	case number:
		return a.quotient(b)
	}
	return nought{neg: otherSign(a, b)}
}

// quotient is what stands in for a over b, two floats' worths.
func (a number) quotient(b number) float {
	x, xExp := a.lined()
	y, yExp := b.lined()
	// With a quarter of x, which has no bits so low, the quotient has 62 or 63 bits.
	first, rest := bits.Div64(x>>2, 0, y)
	return standIn(otherSign(a, b), first, rest != 0, xExp-yExp-62)
}

func (a number) root() float {
	if a.worth.Neg {
		return invalid()
	}
	x, exp := a.lined()
	x, exp = x>>2, exp+2
	if exp&1 != 0 {
		x, exp = x>>1, exp+1
	}
	first, same := rootOf(x)
	return standIn(false, first, !same, (exp-64)/2)
}

// rootOf is the greatest number whose square is not above x times 2 to the power of 64, and whether its square is that; x must be below 2 to the power of 62.
func rootOf(x uint64) (root uint64, same bool) {
	for bit := uint64(1) << 62; bit > 0; bit >>= 1 {
		more := root | bit
		high, low := bits.Mul64(more, more)
		if high < x || high == x && low == 0 {
			root = more
		}
	}
	high, low := bits.Mul64(root, root)
	return root, high == x && low == 0
}

// lined is the number of a float's worth with its first bit at the highest of 64 places, and its exponent then. A float has 53 bits at most: the lowest places are empty.
func (a number) lined() (uint64, int) {
	x := uint64(0)
	for _, limb := range slices.Backward(a.worth.Mant.Limbs) {
		x = x<<32 | uint64(limb)
	}
	up := bits.LeadingZeros64(x)
	return x << up, a.worth.Exp - up
}

// standIn is a number that rounds in every form and mode as one does that begins with the bits first, 62 or 63 of them, and perhaps goes on behind them: the last bit is set, if so. Both are floats' worths, or halves between two, or lie between the same of these, as no form has so many bits.
func standIn(neg bool, first uint64, goesOn bool, exp int) float {
	if goesOn {
		first |= 1
	}
	worth, _ := exact.Make(neg, ratio.Whole(int(first)).Num, exp)
	return number{worth: worth}
}

func (a number) whole(mode uint8) float {
	r, _ := exact.Ratio(a.worth)
	neg, n, same, _ := round.Whole(r, mode)
	flags := uint8(0)
	if !same {
		flags = api.FlagInexact
	}
	if isNought(n) {
		return nought{neg: a.worth.Neg, flags: flags}
	}
	worth, _ := exact.Make(neg, n, 0)
	return number{worth: worth, flags: flags}
}

func (a number) rounded(f api.Form, mode uint8) (uint64, uint8, api.Errno) {
	bits, flags, e := round.Dyadic(f, a.worth, a.worth.Neg, mode)
	return bits, flags | a.flags, e
}

func (a number) negative() bool { return a.worth.Neg }

func isNought(n api.Nat) bool { return len(n.Limbs) == 0 }
