package nat

import (
	"slices"

	"numeral/api"
)

// Add is the sum.
func Add(a, b api.Nat) (api.Nat, api.Errno) {
	if e := checkBoth(a, b); e != api.OK {
		return api.Nat{}, e
	}
	long, short := a.Limbs, b.Limbs
	if len(long) < len(short) {
		long, short = short, long
	}
	sum := make([]uint32, len(long)+1)
	copy(sum, long)
	addInto(sum, short)
	return limited(sum)
}

// Sub is the difference (false: b is the greater one).
func Sub(a, b api.Nat) (api.Nat, bool, api.Errno) {
	if e := checkBoth(a, b); e != api.OK {
		return api.Nat{}, false, e
	}
	if compare(a.Limbs, b.Limbs) < 0 {
		return api.Nat{}, false, api.OK
	}
	rest := slices.Clone(a.Limbs)
	takeInto(rest, b.Limbs)
	return api.Nat{Limbs: trim(rest)}, true, api.OK
}

// Mul is the product.
func Mul(a, b api.Nat) (api.Nat, api.Errno) {
	if e := checkBoth(a, b); e != api.OK {
		return api.Nat{}, e
	}
	x, y := a.Limbs, b.Limbs
	if len(x) == 0 || len(y) == 0 {
		return api.Nat{}, api.OK
	}
	// A product has as many limbs as both together, or one fewer: what is surely too long need not be worked out.
	if len(x)+len(y)-1 > api.MaxLimbs {
		return api.Nat{}, api.ErrMany
	}
	return limited(multiply(x, y))
}

func multiply(x, y []uint32) []uint32 {
	product := make([]uint32, len(x)+len(y))
	for i, limb := range y {
		if limb == 0 {
			continue
		}
		end := i + len(x)
		product[end] = addTimes(product[i:end:end], x, limb)
	}
	return product
}

// addInto adds src to dst, which is at least as long, and tells whether one is carried beyond it.
func addInto(dst, src []uint32) bool {
	carry := uint64(0)
	for i := range dst {
		carry += uint64(dst[i])
		if i < len(src) {
			carry += uint64(src[i])
		}
		dst[i] = uint32(carry)
		carry >>= limbBits
	}
	return carry != 0
}

// takeInto takes src, which is not the greater one, from dst. It adds the complement and 1, so that the carry is never below nought.
func takeInto(dst, src []uint32) {
	carry := uint64(1)
	for i := range dst {
		limb := uint32(limbMask)
		if i < len(src) {
			limb ^= src[i]
		}
		carry += uint64(dst[i]) + uint64(limb)
		dst[i] = uint32(carry)
		carry >>= limbBits
	}
}

// addTimes adds src times the factor to dst, which is as long, and answers the limb that is carried beyond it. (The greatest product, limb and carry together just fit 64 bits.)
func addTimes(dst, src []uint32, factor uint32) uint32 {
	carry := uint64(0)
	for i, limb := range src {
		carry += uint64(limb)*uint64(factor) + uint64(dst[i])
		dst[i] = uint32(carry)
		carry >>= limbBits
	}
	return uint32(carry)
}
