package nat

import (
	"slices"

	"numeral/api"
)

// leadBits of two numbers are looked at to foretell their next quotients: so many that the factors, which stay below the root of 2^leadBits, times a limb fit an int64 with what is carried.
const leadBits = 62

// Gcd is the greatest common divisor.
func Gcd(a, b api.Nat) (api.Nat, api.Errno) {
	if e := checkBoth(a, b); e != api.OK {
		return api.Nat{}, e
	}
	x, y := slices.Clone(a.Limbs), slices.Clone(b.Limbs)
	if compare(x, y) < 0 {
		x, y = y, x
	}
	for len(y) > 2 {
		x, y = lessen(x, y)
	}
	if len(y) == 0 {
		return api.Nat{Limbs: trim(x)}, api.OK
	}
	_, rest := divide(x, y)
	return Of(gcdOfWords(word(y), word(rest))), api.OK
}

func gcdOfWords(x, y uint64) uint64 {
	for y != 0 {
		x, y = y, x%y
	}
	return x
}

// lessen goes one or more steps of Euclid's way: what it answers are x and y of a later step, in the memory of x and y or in new memory.
func lessen(x, y []uint32) ([]uint32, []uint32) {
	shift := bitLength(x) - leadBits
	s := foretell(int64(word(shiftDown(x, shift))), int64(word(shiftDown(y, shift))))
	if s.upperY == 0 {
		_, rest := divide(x, y)
		return y, rest
	}
	return s.take(x, y)
}

// steps are some steps of Euclid's way put together: the later x is upperX x + upperY y, the later y is lowerX x + lowerY y.
type steps struct{ upperX, upperY, lowerX, lowerY int64 }

// foretell goes on with the leading bits of x and y alone (Lehmer's way), as long as what is cut off can't change a quotient: while it comes out the same at both ends of what x over y may be. While it does, a new factor is less than the y of its step, and both multiplied are no more than the first x: so it is less than the root of that.
func foretell(x, y int64) steps {
	s := steps{upperX: 1, lowerY: 1}
	for y+s.lowerX != 0 && y+s.lowerY != 0 {
		q := (x + s.upperX) / (y + s.lowerX)
		if q != (x+s.upperY)/(y+s.lowerY) {
			break
		}
		s = steps{s.lowerX, s.lowerY, s.upperX - q*s.lowerX, s.upperY - q*s.lowerY}
		x, y = y, x-q*y
	}
	return s
}

// take works in place and leaves x's limbs beyond those of y out: after one step or more both numbers are no greater than y was.
func (s steps) take(x, y []uint32) ([]uint32, []uint32) {
	n := len(y)
	x = x[:n:n]
	upper, lower := int64(0), int64(0)
	for i := range y {
		limbX, limbY := int64(x[i]), int64(y[i])
		upper += s.upperX*limbX + s.upperY*limbY
		lower += s.lowerX*limbX + s.lowerY*limbY
		x[i], y[i] = uint32(upper), uint32(lower)
		upper >>= limbBits
		lower >>= limbBits
	}
	return trim(x), trim(y)
}
