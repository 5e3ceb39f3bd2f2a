package soft

import (
	"math/big"
	"testing"

	"numeral/api"
)

// rootNear is the root of x, or, if that is no fraction, one that is so near to it that no float, and no half between two, lies between.
func rootNear(x *big.Rat) *big.Rat {
	const more = 100
	square := new(big.Int).Mul(x.Num(), x.Denom())
	square.Lsh(square, 2*more)
	root := new(big.Int).Sqrt(square)
	same := new(big.Int).Mul(root, root).Cmp(square) == 0
	root.Lsh(root, 1)
	if !same {
		root.SetBit(root, 0, 1)
	}
	return new(big.Rat).SetFrac(root, new(big.Int).Lsh(x.Denom(), more+1))
}

// wantRoot is P7.5, word by word.
func wantRoot(f api.Form, a uint64, mode uint8) told {
	if answer, is := ofNaNs(f, a); is {
		return answer
	}
	switch {
	case isZero(f, a):
		return told{bits: a}
	case isNeg(f, a):
		return noAnswer(f)
	case isInf(f, a):
		return told{bits: a}
	}
	return rounds(f, rootNear(worth(f, a)), false, mode)
}

func TestP75Sqrt(t *testing.T) { throughAll(t, "Sqrt", Sqrt, wantRoot) }

// checkSquares holds the answers against the squares alone: Down's is the last float whose square is not above x, Up's the first whose square is not below; the nearest is told by the square of the middle, which has too many bits to be x.
func checkSquares(t *testing.T, f api.Form, a uint64) {
	t.Helper()
	x := worth(f, a)
	square := func(y *big.Rat) int { return times(y, y).Cmp(x) }
	low, lowFlags, _ := Sqrt(f, a, api.Down)
	high, highFlags, _ := Sqrt(f, a, api.Up)
	if square(worth(f, low)) == 0 {
		for _, mode := range everyMode {
			wants(t, tell(Sqrt(f, a, mode)), told{bits: low}, "Sqrt", f, mode, a)
		}
		return
	}
	if square(worth(f, low)) > 0 || square(worth(f, high)) < 0 || high != low+1 || lowFlags&inexact == 0 || highFlags&inexact == 0 {
		t.Errorf("Sqrt of %#x in %v lies between %#x and %#x", a, f, low, high)
	}
	nearer := low
	if square(halfway(worth(f, low), worth(f, high))) < 0 {
		nearer = high
	}
	for _, c := range []struct {
		mode uint8
		want uint64
	}{{api.Even, nearer}, {api.Away, nearer}, {api.Zero, low}} {
		if got, flags, e := Sqrt(f, a, c.mode); got != c.want || flags&inexact == 0 || e != api.OK {
			t.Errorf("Sqrt of %#x in %v, mode %d: %#x, flags %d, error %d; want %#x", a, f, c.mode, got, flags, int(e), c.want)
		}
	}
}

// Forms with two exponent bits, whose roots may be subnormal, are left to TestP75Sqrt.
func TestP75Squares(t *testing.T) {
	t.Parallel()
	eachForm(t, edgeForms(), func(t *testing.T, f api.Form) {
		if f.Exp == 2 {
			return
		}
		for _, a := range edges(f) {
			if !isNeg(f, a) && a != 0 {
				checkSquares(t, f, a)
			}
		}
		r := source(uint64(f.Frac))
		for range 1000 {
			checkSquares(t, f, 1+r.Uint64N(greatest(f)))
			checkSquares(t, f, about(r, f))
		}
	})
	for a := uint64(1); a < infinity(half); a++ {
		checkSquares(t, half, a)
	}
}

// Roots that are exact: of squares of floats of few bits, large ones and small ones, subnormal squares too.
func TestP75ExactRoots(t *testing.T) {
	for _, f := range allForms() {
		r := source(uint64(f.Exp))
		for range 20 {
			// With half of the bits that a float has, its square is a float, too, or but one bit too long.
			root := about(r, f)
			root &^= 1<<((f.Frac+1)/2) - 1
			square := rounds(f, times(worth(f, root), worth(f, root)), false, api.Even)
			if square.flags != 0 {
				continue
			}
			for _, mode := range everyMode {
				wants(t, tell(Sqrt(f, square.bits, mode)), told{bits: root}, "Sqrt", f, mode, square.bits)
			}
		}
	}
	for _, c := range []struct {
		f       api.Form
		a, want uint64
	}{
		{half, 0x4400, 0x4000}, {half, 0x4880, 0x4200}, {half, 1, 0x0c00}, {half, 4, 0x1000}, {half, 0x0009, 0x1200}, {half, 0x3c00, 0x3c00}, {half, 0x0400, 0x2000},
		{double, 1, 0x1e60000000000000}, {double, 0x7fd0000000000000, 0x5fe0000000000000}, {double, 0x4022000000000000, 0x4008000000000000}, {double, 0x4010000000000000, 0x4000000000000000},
		{single, 0x3e800000, 0x3f000000}, {single, 2, 0x1a800000}, {single, 8, 0x1b000000},
	} {
		for _, mode := range everyMode {
			wants(t, tell(Sqrt(c.f, c.a, mode)), told{bits: c.want}, "Sqrt", c.f, mode, c.a)
		}
	}
}

// Roots just beside a half: of the two floats between which the square of a half lies. And, in every form, of 1 and its last place, whose root lies just below the half behind 1, and of what is just below 1.
func TestP75BesideAHalf(t *testing.T) {
	t.Parallel()
	eachForm(t, []api.Form{half, brain, single, double, form(11, 1), form(4, 52), form(6, 9), form(11, 51)}, func(t *testing.T, f api.Form) {
		for _, middle := range targets(f, 5, 300) {
			for _, mode := range []uint8{api.Up, api.Down} {
				a := rounds(f, times(middle, middle), false, mode).bits
				if isFinite(f, a) {
					checkOne(t, "Sqrt", Sqrt, wantRoot, f, a)
				}
			}
		}
	})
	for _, f := range allForms() {
		x := one(f)
		for mode, want := range [5]uint64{x, x, x, x + 1, x} {
			wants(t, tell(Sqrt(f, x+1, uint8(mode))), told{bits: want, flags: inexact}, "Sqrt", f, uint8(mode), x+1)
		}
		if f.Exp == 2 {
			continue // 1 is the least normal float there
		}
		for mode, want := range [5]uint64{x - 1, x - 1, x - 1, x, x - 1} {
			wants(t, tell(Sqrt(f, x-1, uint8(mode))), told{bits: want, flags: inexact}, "Sqrt", f, uint8(mode), x-1)
		}
	}
}

func TestP75WhatHasNoRoot(t *testing.T) {
	for _, f := range allForms() {
		neg := minus(f)
		for _, mode := range everyMode {
			for _, a := range []uint64{1, normal(f) - 1, normal(f), one(f), greatest(f), infinity(f)} {
				wants(t, tell(Sqrt(f, a+neg, mode)), noAnswer(f), "Sqrt", f, mode, a+neg)
			}
			for _, a := range []uint64{0, neg, infinity(f)} {
				wants(t, tell(Sqrt(f, a, mode)), told{bits: a}, "Sqrt", f, mode, a)
			}
		}
	}
}

// In forms with two exponent bits roots of what is below 1 are subnormal, too, and may underflow.
func TestP75Underflow(t *testing.T) {
	f := form(2, 1) // 0, 1/2, 1, 3/2, 2, 3
	for mode, want := range [5]told{{1, underflow, 0}, {1, underflow, 0}, {1, underflow, 0}, {2, underflow, 0}, {1, underflow, 0}} {
		wants(t, tell(Sqrt(f, 1, uint8(mode))), want, "Sqrt", f, uint8(mode), 1)
	}
}
