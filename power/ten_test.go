package power

import (
	"math/big"
	"testing"

	"numeral/api"
)

// Written out: ordinary powers on both sides of nought, and those where the way changes or ends.
func TestP131Powers(t *testing.T) {
	for _, c := range []struct {
		k      int
		hi, lo uint64
		exp    int
		whole  bool
	}{
		{2, 0xc800000000000000, 0, -121, true},
		{3, 0xfa00000000000000, 0, -118, true},
		{10, 0x9502f90000000000, 0, -94, true},
		{20, 0xad78ebc5ac620000, 0, -61, true},
		{26, 0xa56fa5b99019a5c8, 0, -41, true},
		{27, 0xcecb8f27f4200f3a, 0, -38, true},
		{28, 0x813f3978f8940984, 0x4000000000000000, -34, true},
		{29, 0xa18f07d736b90be5, 0x5000000000000000, -31, true},
		{53, 0x85a36366eb71f041, 0x47a6da2b7f864750, 49, true},
		{54, 0xa70c3c40a64e6c51, 0x999090b65f67d924, 52, true},
		{55, 0xd0cf4b50cfe20765, 0xfff4b4e3f741cf6d, 55, true},
		{56, 0x82818f1281ed449f, 0xbff8f10e7a8921a4, 59, false},
		{57, 0xa321f2d7226895c7, 0xaff72d52192b6a0d, 62, false},
		{100, 0x924d692ca61be758, 0x593c2626705f9c56, 205, false},
		{308, 0x8e679c2f5e44ff8f, 0x570f09eaa7ea7648, 896, false},
		{most - 1, 0xaec4ffd3d61994b7, 0xa51fa93180964e38, 1198, false},
		{most, 0xda763fc8cb9ff9e5, 0x8e67937de0bbe1c6, 1201, false},
		{-2, 0xa3d70a3d70a3d70a, 0x3d70a3d70a3d70a3, -134, false},
		{-3, 0x83126e978d4fdf3b, 0x645a1cac083126e9, -137, false},
		{-27, 0x9e74d1b791e07e48, 0x775ea264cf55347d, -217, false},
		{-28, 0xfd87b5f28300ca0d, 0x8bca9d6e188853fc, -221, false},
		{-55, 0x9ced737bb6c4183d, 0x55464dd69685606b, -310, false},
		{-56, 0xfb158592be068d2e, 0xeed6e2f0f0d56712, -314, false},
		{-342, 0xeef453d6923bd65a, 0x113faa2906a13b3f, -1264, false},
		{1 - most, 0xbb7e1d89bb66b9b8, 0xc77e266516cb2106, -1453, false},
		{-most, 0x95fe7e07c91efafa, 0x3931b850df08e738, -1456, false},
	} {
		tenIs(t, c.k, c.hi, c.lo, c.exp)
		wholeIs(t, c.k, c.whole)
	}
}

// Every power is not below the 128 bits times 2^exp, and below the 128 bits and one; it is just that where Whole says so, which is from 0 to 55.
func TestP131EveryPowerLiesWhereItMust(t *testing.T) {
	one := big.NewInt(1)
	for k := -most; k <= most; k++ {
		bits, exp := tenAt(t, k)
		if bits.BitLen() != 128 {
			t.Errorf("Ten(%d): %x has %d bits", k, bits, bits.BitLen())
		}
		ten := fraction(one, 10, k)
		order := ten.Cmp(fraction(bits, 2, exp))
		if order < 0 || ten.Cmp(fraction(new(big.Int).Add(bits, one), 2, exp)) >= 0 {
			t.Errorf("Ten(%d): the power does not lie from %x times 2^%d on", k, bits, exp)
		}
		if (order == 0) != (0 <= k && k <= 55) {
			t.Errorf("Ten(%d): as to the power the order of the 128 bits times 2^%d is %d", k, exp, order)
		}
		wholeIs(t, k, order == 0)
	}
}

func TestP131PowersThatAreNotKept(t *testing.T) {
	for _, k := range beyond() {
		if hi, lo, exp, e := Ten(k); hi != 0 || lo != 0 || exp != 0 || e != api.ErrPower {
			t.Errorf("Ten(%d): %x %x, %d, error %d", k, hi, lo, exp, int(e))
		}
		if is, e := Whole(k); is || e != api.ErrPower {
			t.Errorf("Whole(%d): %v, error %d", k, is, int(e))
		}
	}
}
