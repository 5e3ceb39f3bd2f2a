package wide

import (
	"math/bits"

	"numeral/api"
)

// whole192 is a whole number of 192 bits, the lowest word first.
type whole192 [3]uint64

// product is m times the whole number hi times 2^64 + lo.
func product(m, hi, lo uint64) whole192 {
	carried, low := bits.Mul64(m, lo)
	high, middle := bits.Mul64(m, hi)
	middle, carry := bits.Add64(middle, carried, 0)
	return whole192{low, middle, high + carry}
}

// plus is m more. It fits: 64 bits times 128 are below 2^192 by more than m.
func (n whole192) plus(m uint64) whole192 {
	low, carry := bits.Add64(n[0], m, 0)
	middle, carry := bits.Add64(n[1], 0, carry)
	return whole192{low, middle, n[2] + carry}
}

// dyadic is n, which is not nought, times 2 to the power of exp. A dyadic's number is odd: the twos in it go into the exponent.
func (n whole192) dyadic(exp int) api.Dyadic {
	for n[0] == 0 {
		n = whole192{n[1], n[2]}
		exp += 64
	}
	twos := bits.TrailingZeros64(n[0])
	return api.Dyadic{Mant: api.Nat{Limbs: n.down(twos).limbs()}, Exp: exp + twos}
}

// down is n without its lowest bits, fewer than 64 of them.
func (n whole192) down(by int) whole192 {
	return whole192{n[0]>>by | n[1]<<(64-by), n[1]>>by | n[2]<<(64-by), n[2] >> by}
}

// limbs is n's bits by 32, the lowest first and none that is 0 at the end.
func (n whole192) limbs() []uint32 {
	limbs := make([]uint32, 0, 2*len(n))
	for _, word := range n {
		limbs = append(limbs, uint32(word), uint32(word>>32))
	}
	for limbs[len(limbs)-1] == 0 {
		limbs = limbs[:len(limbs)-1]
	}
	return limbs
}
