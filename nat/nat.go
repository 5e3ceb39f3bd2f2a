// Package nat is layer 1: whole numbers from 0 on, of any size up to api.MaxLimbs limbs. See shared/doc/01-nat.md.
package nat

import (
	"math/bits"

	"numeral/api"
)

const (
	limbBits = 32
	limbMask = 1<<limbBits - 1
	maxBits  = api.MaxLimbs * limbBits
)

// Of is a number of 64 bits.
func Of(n uint64) api.Nat {
	return api.Nat{Limbs: trim([]uint32{uint32(n), uint32(n >> limbBits)})}
}

// Check tells whether a number may be.
func Check(a api.Nat) api.Errno {
	n := len(a.Limbs)
	if n > api.MaxLimbs {
		return api.ErrMany
	}
	if n > 0 && a.Limbs[n-1] == 0 {
		return api.ErrNat
	}
	return api.OK
}

// Cmp is -1, 0 or 1: a below b, the same, above it.
func Cmp(a, b api.Nat) (int, api.Errno) {
	if e := checkBoth(a, b); e != api.OK {
		return 0, e
	}
	return compare(a.Limbs, b.Limbs), api.OK
}

// Bits is how many bits a has.
func Bits(a api.Nat) (int, api.Errno) {
	if e := Check(a); e != api.OK {
		return 0, e
	}
	return bitLength(a.Limbs), api.OK
}

// Bit is whether the bit number i of a is 1.
func Bit(a api.Nat, i int) (bool, api.Errno) {
	if e := Check(a); e != api.OK {
		return false, e
	}
	if i < 0 {
		return false, api.ErrArg
	}
	if i/limbBits >= len(a.Limbs) {
		return false, api.OK
	}
	limb := a.Limbs[i/limbBits]
	limb >>= i % limbBits
	limb &= 1
	return limb == 1, api.OK
}

// Low is a as 64 bits, if it fits.
func Low(a api.Nat) (uint64, bool) {
	if Check(a) != api.OK || len(a.Limbs) > 2 {
		return 0, false
	}
	return word(a.Limbs), true
}

// checkBoth is the error of the first of two numbers that may not be.
func checkBoth(a, b api.Nat) api.Errno {
	if e := Check(a); e != api.OK {
		return e
	}
	return Check(b)
}

// limited takes new limbs as an answer, unless they are too many.
func limited(limbs []uint32) (api.Nat, api.Errno) {
	limbs = trim(limbs)
	if len(limbs) > api.MaxLimbs {
		return api.Nat{}, api.ErrMany
	}
	return api.Nat{Limbs: limbs}, api.OK
}

// trim cuts the noughts at the high end off, and the spare room with them: what is appended later goes elsewhere.
func trim(limbs []uint32) []uint32 {
	n := len(limbs)
	for n > 0 && limbs[n-1] == 0 {
		n--
	}
	return limbs[:n:n]
}

// compare needs limbs without noughts at the high end, as it goes by their count first.
func compare(x, y []uint32) int {
	if len(x) != len(y) {
		return sign(len(x) > len(y))
	}
	for i := len(x) - 1; i >= 0; i-- {
		if x[i] != y[i] {
			return sign(x[i] > y[i])
		}
	}
	return 0
}

func sign(above bool) int {
	if above {
		return 1
	}
	return -1
}

func bitLength(x []uint32) int {
	if len(x) == 0 {
		return 0
	}
	return len(x)*limbBits - bits.LeadingZeros32(x[len(x)-1])
}

// word puts the lowest two limbs together; the callers have seen to it that there are no others.
func word(x []uint32) uint64 {
	n := uint64(0)
	for i := min(len(x), 2) - 1; i >= 0; i-- {
		n <<= limbBits
		n |= uint64(x[i])
	}
	return n
}
