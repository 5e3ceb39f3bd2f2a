package nat

import (
	"slices"

	"numeral/api"
)

// Texts are gone through by groups of nine digits: the most that fit a limb.
const (
	groupDigits = 9
	groupSize   = 1000000000
)

// Text is a in tens.
func Text(a api.Nat) (string, api.Errno) {
	if e := Check(a); e != api.OK {
		return "", e
	}
	if len(a.Limbs) == 0 {
		return "0", api.OK
	}
	rest := slices.Clone(a.Limbs)
	// A limb is worth less than ten digits; the highest group may begin with up to eight noughts.
	text := make([]byte, 10*len(rest)+groupDigits)
	at := len(text)
	for len(rest) > 0 {
		group := cutGroup(rest)
		rest = trim(rest)
		for range groupDigits {
			at--
			text[at] = '0' + byte(group%10)
			group /= 10
		}
	}
	for text[at] == '0' {
		at++
	}
	return string(text[at:]), api.OK
}

// cutGroup divides x by a group's size, in place, and answers what is left. The divisor is a constant, as the machine divides by those far more quickly.
func cutGroup(x []uint32) uint32 {
	rest := uint64(0)
	for i := len(x) - 1; i >= 0; i-- {
		rest <<= limbBits
		rest |= uint64(x[i])
		x[i] = uint32(rest / groupSize)
		rest %= groupSize
	}
	return uint32(rest)
}

// Parse reads what Text writes; its int is the place of a fault. (MaxText digits are far from MaxLimbs limbs: no number is too long here.)
func Parse(s string) (api.Nat, int, api.Errno) {
	if len(s) > api.MaxText {
		return api.Nat{}, 0, api.ErrText
	}
	if len(s) == 0 {
		return api.Nat{}, 0, api.ErrSyntax
	}
	for i := range len(s) {
		if s[i] < '0' || s[i] > '9' {
			return api.Nat{}, i, api.ErrSyntax
		}
	}
	limbs := make([]uint32, 0, len(s)/groupDigits+1)
	for len(s) > 0 {
		size := (len(s)-1)%groupDigits + 1
		limbs = putGroup(limbs, s[:size])
		s = s[size:]
	}
	return api.Nat{Limbs: trim(limbs)}, 0, api.OK
}

// putGroup puts the digits behind those of x, in x's memory.
func putGroup(x []uint32, digits string) []uint32 {
	carry, factor := uint64(0), uint64(1)
	for i := range len(digits) {
		carry = carry*10 + uint64(digits[i]-'0')
		factor *= 10
	}
	for i, limb := range x {
		carry += uint64(limb) * factor
		x[i] = uint32(carry)
		carry >>= limbBits
	}
	if carry == 0 {
		return x
	}
	return append(x, uint32(carry))
}
