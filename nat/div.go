package nat

import (
	"math/bits"
	"slices"

	"numeral/api"
)

// Div is quotient and remainder.
func Div(a, b api.Nat) (q, r api.Nat, e api.Errno) {
	if e := checkBoth(a, b); e != api.OK {
		return api.Nat{}, api.Nat{}, e
	}
	if len(b.Limbs) == 0 {
		return api.Nat{}, api.Nat{}, api.ErrZero
	}
	quotient, rest := divide(a.Limbs, b.Limbs)
	return api.Nat{Limbs: quotient}, api.Nat{Limbs: rest}, api.OK
}

// divide answers two lists of new memory; y is not nought.
func divide(x, y []uint32) (quotient, rest []uint32) {
	if compare(x, y) < 0 {
		return nil, slices.Clone(x)
	}
	if len(y) == 1 {
		quotient, left := divideByLimb(x, y[0])
		return quotient, trim([]uint32{left})
	}
	// Both are shifted till the divisor's highest bit is set: only then a digit that is guessed from the highest limbs is nearly right.
	shift := bits.LeadingZeros32(y[len(y)-1])
	divisor := trim(shiftUp(y, shift))
	rest = shiftUp(x, shift)
	quotient = quotientDigits(rest, divisor)
	return trim(quotient), shiftDown(trim(rest), shift)
}

func divideByLimb(x []uint32, by uint32) (quotient []uint32, left uint32) {
	quotient = make([]uint32, len(x))
	rest := uint64(0)
	for i := len(x) - 1; i >= 0; i-- {
		rest <<= limbBits
		rest |= uint64(x[i])
		quotient[i] = uint32(rest / uint64(by))
		rest %= uint64(by)
	}
	return trim(quotient), uint32(rest)
}

// quotientDigits leaves in rest what is left. The divisor has two limbs or more, its highest bit is set, and rest has one limb more than its number needs.
func quotientDigits(rest, divisor []uint32) []uint32 {
	n := len(divisor)
	quotient := make([]uint32, len(rest)-n)
digits:
	for i := len(quotient) - 1; i >= 0; i-- {
		part := rest[i : i+n+1 : i+n+1]
		digit := guessDigit(part, divisor)
		below := takeTimes(part, divisor, digit)
		for ; ; digit-- {
			if !below {
				quotient[i] = digit
				continue digits
			}
			// What went below nought comes back to it just when the sum carries.
			below = !addInto(part, divisor)
		}
	}
	return quotient
}

// guessDigit is the quotient's digit, or one too great: the guess is by the divisor's highest limb, and mended by the next one.
func guessDigit(part, divisor []uint32) uint32 {
	n := len(divisor)
	top, next := uint64(divisor[n-1]), uint64(divisor[n-2])
	high := uint64(part[n])
	high <<= limbBits
	high |= uint64(part[n-1])
	guess, left := high/top, high%top
	for guess > limbMask || guess*next > left<<limbBits|uint64(part[n-2]) {
		guess--
		left += top
		if left > limbMask {
			break
		}
	}
	return uint32(guess)
}

// takeTimes takes src times the factor from dst, which has one limb more, and tells whether dst went below nought (it wraps then).
func takeTimes(dst, src []uint32, factor uint32) bool {
	carry := uint64(0)
	for i, limb := range src {
		carry += uint64(limb) * uint64(factor)
		low := uint32(carry)
		carry >>= limbBits
		if dst[i] < low {
			carry++
		}
		dst[i] -= low
	}
	last := len(src)
	below := uint64(dst[last]) < carry
	dst[last] -= uint32(carry)
	return below
}
