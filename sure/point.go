package sure

import (
	"math/bits"
)

// point is a number of 64 bits ahead of the point, in the first word, and of 192 bits behind it.
type point [4]uint64

// triple is a whole number of 192 bits, the highest ones first.
type triple [3]uint64

// product is exact.
func product(y uint64, t [2]uint64) triple {
	carried, lowest := bits.Mul64(y, t[1])
	highest, middle := bits.Mul64(y, t[0])
	middle, carry := bits.Add64(middle, carried, 0)
	return triple{highest + carry, middle, lowest}
}

// plus is n and y, which fit 192 bits together.
func (n triple) plus(y uint64) triple {
	var carry uint64
	n[2], carry = bits.Add64(n[2], y, 0)
	n[1], carry = bits.Add64(n[1], 0, carry)
	n[0] += carry
	return n
}

// times2 is n times 2^exp, of which no bit is lost: exp is from -192 on, and what comes out is below 2^64.
func (n triple) times2(exp int) point {
	p := point{0, n[0], n[1], n[2]}
	up := exp + 192
	for ; up >= 64; up -= 64 {
		p = point{p[1], p[2], p[3], 0}
	}
	down := 64 - up
	return point{p[0]<<up | p[1]>>down, p[1]<<up | p[2]>>down, p[2]<<up | p[3]>>down, p[3] << up}
}

// isWhole tells whether there is nothing behind the point.
func (p point) isWhole() bool { return p == point{p[0]} }

// isHalf tells whether there is just a half behind the point.
func (p point) isHalf() bool { return p == point{p[0], 1 << 63} }

// atMost is the greatest whole number that is not above p.
func (p point) atMost() uint64 { return p[0] }

// above is the least whole number that is above p.
func (p point) above() uint64 { return p[0] + 1 }

// atLeast is the least whole number that is not below p.
func (p point) atLeast() uint64 {
	if p.isWhole() {
		return p[0]
	}
	return p.above()
}

// below is the greatest whole number that is below p.
func (p point) below() uint64 {
	if p.isWhole() {
		return p[0] - 1
	}
	return p.atMost()
}

// nearest is the whole number that is nearest to p, of two the even one.
func (p point) nearest() uint64 {
	if p.isHalf() {
		return p[0] + p[0]%2
	}
	// The first bit behind the point is a half.
	return p[0] + p[1]>>63
}
