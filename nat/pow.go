package nat

import (
	"math/bits"

	"numeral/api"
)

// Pow is b to the power of n.
func Pow(b uint32, n int) (api.Nat, api.Errno) {
	if n < 0 {
		return api.Nat{}, api.ErrArg
	}
	if n == 0 || b == 1 {
		return Of(1), api.OK
	}
	if b == 0 {
		return api.Nat{}, api.OK
	}
	// From 2 on a power has more bits than its exponent says.
	if n >= maxBits {
		return api.Nat{}, api.ErrMany
	}
	return powerOf(Of(uint64(b)), n)
}

// powerOf goes from the exponent's highest bit down: nothing on the way is greater than the answer, so that ErrMany comes just if it is the answer's.
func powerOf(base api.Nat, n int) (api.Nat, api.Errno) {
	power := Of(1)
	for i := bits.Len(uint(n)) - 1; i >= 0; i-- {
		square, e := Mul(power, power)
		if e != api.OK {
			return api.Nat{}, e
		}
		power = square
		if n>>i&1 == 0 {
			continue
		}
		if power, e = Mul(power, base); e != api.OK {
			return api.Nat{}, e
		}
	}
	return power, api.OK
}
