package power

import (
	"math/bits"

	"numeral/api"
)

// mostTwos is the greatest power of two of which Two tells the digits.
const mostTwos = 1 << 16

// logTwo is the logarithm of 2 to the base of ten, times 2^64, rounded down. Up to mostTwos no power of two but 1 lies so near to a power of ten that what is rounded off counts.
const logTwo = 0x4d104d427de7fbcc

// Digits is how many digits a number has in tens.
func Digits(n uint64) int {
	// Nought has one digit, as 1 has; of all others the lowest bit changes nothing, as the powers of ten from ten on are even.
	some := n | 1
	least := twoDigits(bits.Len64(some) - 1)
	if some >= fives[least]<<least {
		return least + 1
	}
	return least
}

// Two is how many digits 2 to the power of n has in tens, n from 0 to 65536.
func Two(n int) (int, api.Errno) {
	if n < 0 || n > mostTwos {
		return 0, api.ErrArg
	}
	return twoDigits(n), api.OK
}

func twoDigits(n int) int {
	whole, _ := bits.Mul64(uint64(n), logTwo)
	return int(whole) + 1
}
