package soft

import (
	"math/big"
	"testing"

	"numeral/api"
)

// wantProduct is P7.3, word by word.
func wantProduct(f api.Form, a, b uint64, mode uint8) told {
	if answer, is := ofNaNs(f, a, b); is {
		return answer
	}
	neg := isNeg(f, a) != isNeg(f, b)
	switch {
	case isInf(f, a) && isZero(f, b), isZero(f, a) && isInf(f, b):
		return noAnswer(f)
	case isInf(f, a), isInf(f, b):
		return told{bits: signed(f, infinity(f), neg)}
	}
	return rounds(f, times(worth(f, a), worth(f, b)), neg, mode)
}

func TestP73Mul(t *testing.T) { throughPairs(t, "Mul", Mul, wantProduct) }

func TestP73NoughtsAndInfinities(t *testing.T) {
	for _, f := range edgeForms() {
		inf := infinity(f)
		for _, mode := range everyMode {
			for _, signs := range [][2]bool{{false, false}, {false, true}, {true, false}, {true, true}} {
				neg := signs[0] != signs[1]
				sign := func(bits uint64, place int) uint64 { return signed(f, bits, signs[place]) }
				check := func(a, b uint64, want told) {
					t.Helper()
					wants(t, tell(Mul(f, sign(a, 0), sign(b, 1), mode)), want, "Mul", f, mode, sign(a, 0), sign(b, 1))
				}
				check(inf, 0, noAnswer(f))
				check(0, inf, noAnswer(f))
				check(inf, inf, told{bits: signed(f, inf, neg)})
				check(0, 0, told{bits: signed(f, 0, neg)})
				for _, x := range []uint64{1, normal(f), one(f), greatest(f)} {
					check(inf, x, told{bits: signed(f, inf, neg)})
					check(x, inf, told{bits: signed(f, inf, neg)})
					check(0, x, told{bits: signed(f, 0, neg)})
					check(x, 0, told{bits: signed(f, 0, neg)})
				}
			}
		}
	}
}

// targets are halves between two neighbouring floats, of both parities, of all sizes about 1.
func targets(f api.Form, seed uint64, count int) []*big.Rat {
	r := source(seed)
	var all []*big.Rat
	for range count {
		x := about(r, f)
		all = append(all, halfway(worth(f, x), worth(f, x+1)))
	}
	return all
}

// Products just beside a half: of a float and the two between which a half over that float lies.
func TestP73BesideAHalf(t *testing.T) {
	t.Parallel()
	eachForm(t, []api.Form{half, brain, single, double, form(11, 1), form(4, 52), form(6, 9)}, func(t *testing.T, f api.Form) {
		r := source(31)
		for _, middle := range targets(f, 3, 200) {
			a := about(r, f)
			for _, mode := range []uint8{api.Up, api.Down} {
				b := rounds(f, over(middle, worth(f, a)), false, mode).bits
				checkTwo(t, "Mul", Mul, wantProduct, f, a, b)
				checkTwo(t, "Mul", Mul, wantProduct, f, b+minus(f), a)
			}
		}
	})
}

// Three halves of an odd number of last places are just a half between two floats.
func TestP73JustAHalf(t *testing.T) {
	for _, f := range []api.Form{half, single, double, form(2, 52), form(11, 2)} {
		x, y := one(f)+1, one(f)+normal(f)/2
		low := y + 1 // 3/2, and one last place of the product's half of a step
		want := [5]uint64{low + low%2, low + 1, low, low + 1, low}
		for mode, bits := range want {
			wants(t, tell(Mul(f, x, y, uint8(mode))), told{bits: bits, flags: inexact}, "Mul", f, uint8(mode), x, y)
		}
		checkTwo(t, "Mul", Mul, wantProduct, f, x, y)
		checkTwo(t, "Mul", Mul, wantProduct, f, x+minus(f), y)
	}
}

// Half's least normal float is 2^-14. Underflow is told of what is below it when it is rounded as if exponents had no lower end; what comes out may be just that float, with the flag or without it.
func TestP73UnderflowAfterRounding(t *testing.T) {
	const n = 0x8000
	for _, c := range []struct {
		what string
		a, b uint64
		want [5]told
	}{
		{"2^-14 (1 - 2^-20)", 0x3c01, 0x03ff, [5]told{{0x0400, inexact, 0}, {0x0400, inexact, 0}, {0x03ff, underflow, 0}, {0x0400, inexact, 0}, {0x03ff, underflow, 0}}},
		{"-2^-14 (1 - 2^-20)", 0x3c01 + n, 0x03ff, [5]told{{0x8400, inexact, 0}, {0x8400, inexact, 0}, {0x83ff, underflow, 0}, {0x83ff, underflow, 0}, {0x8400, inexact, 0}}},
		{"2^-14 (1 - 400 times 2^-20)", 0x2014, 0x1fd8, [5]told{{0x0400, underflow, 0}, {0x0400, underflow, 0}, {0x03ff, underflow, 0}, {0x0400, inexact, 0}, {0x03ff, underflow, 0}}},
		{"2^-14 (1 - 2^-11)", 0x3bff, 0x0400, [5]told{{0x0400, underflow, 0}, {0x0400, underflow, 0}, {0x03ff, underflow, 0}, {0x0400, underflow, 0}, {0x03ff, underflow, 0}}},
		{"-2^-14 (1 - 2^-11)", 0x3bff, 0x0400 + n, [5]told{{0x8400, underflow, 0}, {0x8400, underflow, 0}, {0x83ff, underflow, 0}, {0x83ff, underflow, 0}, {0x8400, underflow, 0}}},
		{"2^-14 (1 - 2^-10), which is a float", 0x3bfe, 0x0400, [5]told{{0x03ff, 0, 0}, {0x03ff, 0, 0}, {0x03ff, 0, 0}, {0x03ff, 0, 0}, {0x03ff, 0, 0}}},
	} {
		for mode, want := range c.want {
			wants(t, tell(Mul(half, c.a, c.b, uint8(mode))), want, c.what, half, uint8(mode), c.a, c.b)
		}
		checkTwo(t, c.what, Mul, wantProduct, half, c.a, c.b)
	}
}

// The same in every form: one last place more than 1, and the greatest subnormal float.
func TestP73JustTheLeastNormalFloat(t *testing.T) {
	for _, f := range allForms() {
		a, b := one(f)+1, normal(f)-1
		if f.Frac == 1 {
			continue // three quarters of the least normal float are not so near to it
		}
		for mode, want := range [5]told{{normal(f), inexact, 0}, {normal(f), inexact, 0}, {b, underflow, 0}, {normal(f), inexact, 0}, {b, underflow, 0}} {
			wants(t, tell(Mul(f, a, b, uint8(mode))), want, "Mul", f, uint8(mode), a, b)
		}
	}
}

// The products of the least floats are less than half of these, but in the least form, where the half is just met.
func TestP73Least(t *testing.T) {
	for _, f := range allForms() {
		above, below := [5]uint64{0, 0, 0, 1, 0}, [5]uint64{0, 0, 0, 0, 1}
		if f == form(2, 1) {
			above[api.Away], below[api.Away] = 1, 1
		}
		for _, mode := range everyMode {
			wants(t, tell(Mul(f, 1, 1, mode)), told{bits: above[mode], flags: underflow}, "Mul", f, mode, 1, 1)
			wants(t, tell(Mul(f, 1, minus(f)+1, mode)), told{bits: minus(f) + below[mode], flags: underflow}, "Mul", f, mode, 1, minus(f)+1)
		}
	}
}

func TestP73Greatest(t *testing.T) {
	for _, f := range allForms() {
		g, inf := greatest(f), infinity(f)
		for mode, want := range [5]uint64{inf, inf, g, inf, g} {
			wants(t, tell(Mul(f, g+minus(f), g+minus(f), uint8(mode))), told{bits: want, flags: overflow}, "Mul", f, uint8(mode), g, g)
		}
		for mode, want := range [5]uint64{inf, inf, g, g, inf} {
			wants(t, tell(Mul(f, g, g+minus(f), uint8(mode))), told{bits: want + minus(f), flags: overflow}, "Mul", f, uint8(mode), g, g+minus(f))
		}
	}
}
