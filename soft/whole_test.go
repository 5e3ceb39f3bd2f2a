package soft

import (
	"math/big"
	"testing"

	"numeral/api"
)

// wholeOf is the whole number to which x rounds, by the words of the mode.
func wholeOf(x *big.Rat, mode uint8) *big.Rat {
	floor := new(big.Int).Div(x.Num(), x.Denom())
	low := new(big.Rat).SetInt(floor)
	if low.Cmp(x) == 0 {
		return low
	}
	high := plus(low, big.NewRat(1, 1))
	nearer := x.Cmp(halfway(low, high))
	even, far, near := low, high, low
	if floor.Bit(0) == 1 {
		even = high
	}
	if x.Sign() < 0 {
		far, near = low, high
	}
	switch mode {
	case api.Up:
		return high
	case api.Down:
		return low
	case api.Zero:
		return near
	}
	switch {
	case nearer < 0:
		return low
	case nearer > 0:
		return high
	case mode == api.Even:
		return even
	}
	return far
}

// wantWhole is P7.7, word by word.
func wantWhole(f api.Form, a uint64, mode uint8) told {
	if answer, is := ofNaNs(f, a); is {
		return answer
	}
	if isZero(f, a) || isInf(f, a) {
		return told{bits: a}
	}
	x := worth(f, a)
	answer := rounds(f, wholeOf(x, mode), isNeg(f, a), mode)
	answer.flags &= api.FlagOverflow
	if isInf(f, answer.bits) || worth(f, answer.bits).Cmp(x) != 0 {
		answer.flags |= api.FlagInexact
	}
	return answer
}

func TestP77Whole(t *testing.T) { throughAll(t, "Whole", Whole, wantWhole) }

// Halves, and what is just beside them, of both signs.
func TestP77AtHalves(t *testing.T) {
	const n = 0x8000
	for a, want := range map[uint64][5]uint64{
		0x3800: {0, 0x3c00, 0, 0x3c00, 0}, // 1/2
		0x37ff: {0, 0, 0, 0x3c00, 0},
		0x3801: {0x3c00, 0x3c00, 0, 0x3c00, 0},
		0x3e00: {0x4000, 0x4000, 0x3c00, 0x4000, 0x3c00}, // 3/2
		0x3dff: {0x3c00, 0x3c00, 0x3c00, 0x4000, 0x3c00},
		0x3e01: {0x4000, 0x4000, 0x3c00, 0x4000, 0x3c00},
		0x4100: {0x4000, 0x4200, 0x4000, 0x4200, 0x4000}, // 5/2
		0x40ff: {0x4000, 0x4000, 0x4000, 0x4200, 0x4000},
		0x4101: {0x4200, 0x4200, 0x4000, 0x4200, 0x4000},
		0x63ff: {0x6400, 0x6400, 0x63fe, 0x6400, 0x63fe}, // 1023 1/2, the greatest half that Half has
		0x63fd: {0x63fc, 0x63fe, 0x63fc, 0x63fe, 0x63fc}, // 1022 1/2
		0x0001: {0, 0, 0, 0x3c00, 0},
		0x0400: {0, 0, 0, 0x3c00, 0},
		0x3bff: {0x3c00, 0x3c00, 0, 0x3c00, 0},
		0x3c01: {0x3c00, 0x3c00, 0x3c00, 0x4000, 0x3c00},
		0xb800: {n, 0xbc00, n, n, 0xbc00},
		0xb7ff: {n, n, n, n, 0xbc00},
		0xb801: {0xbc00, 0xbc00, n, n, 0xbc00},
		0xbe00: {0xc000, 0xc000, 0xbc00, 0xbc00, 0xc000},
		0xc100: {0xc000, 0xc200, 0xc000, 0xc000, 0xc200},
		0xe3fd: {0xe3fc, 0xe3fe, 0xe3fc, 0xe3fc, 0xe3fe},
		0x8001: {n, n, n, n, 0xbc00},
		0xbbff: {0xbc00, 0xbc00, n, n, 0xbc00},
	} {
		for mode, bits := range want {
			wants(t, tell(Whole(half, a, uint8(mode))), told{bits: bits, flags: inexact}, "Whole", half, uint8(mode), a)
		}
	}
}

// Floats that are whole numbers stay, without a flag.
func TestP77WholeNumbersStay(t *testing.T) {
	for _, f := range allForms() {
		for _, mode := range everyMode {
			all := []uint64{0, infinity(f), one(f)}
			if bias(f) >= f.Frac {
				all = append(all, greatest(f), greatest(f)-1, uint64(bias(f)+f.Frac)<<f.Frac, uint64(bias(f)+f.Frac)<<f.Frac+1)
			}
			for _, a := range all {
				for _, bits := range []uint64{a, a + minus(f)} {
					wants(t, tell(Whole(f, bits, mode)), told{bits: bits}, "Whole", f, mode, bits)
				}
			}
		}
	}
}

// Where the greatest float has a half or more behind its point, the whole number may be beyond it.
func TestP77SecondRoundingOverflows(t *testing.T) {
	for _, f := range allForms() {
		if bias(f) >= f.Frac {
			continue
		}
		g, inf := greatest(f), infinity(f)
		// The greatest float with nothing behind the point.
		low := g - g%(1<<(f.Frac-bias(f)))
		for mode, want := range [5]told{{inf, overflow, 0}, {inf, overflow, 0}, {low, inexact, 0}, {inf, overflow, 0}, {low, inexact, 0}} {
			wants(t, tell(Whole(f, g, uint8(mode))), want, "Whole", f, uint8(mode), g)
		}
		for mode, want := range [5]told{{inf, overflow, 0}, {inf, overflow, 0}, {low, inexact, 0}, {low, inexact, 0}, {inf, overflow, 0}} {
			want.bits += minus(f)
			wants(t, tell(Whole(f, g+minus(f), uint8(mode))), want, "Whole", f, uint8(mode), g+minus(f))
		}
	}
	// The form {2, 2}: 2, 2 1/2, 3, 3 1/2.
	f := form(2, 2)
	for a, want := range map[uint64][5]told{
		9:  {{8, inexact, 0}, {10, inexact, 0}, {8, inexact, 0}, {10, inexact, 0}, {8, inexact, 0}},
		11: {{12, overflow, 0}, {12, overflow, 0}, {10, inexact, 0}, {12, overflow, 0}, {10, inexact, 0}},
		10: {{10, 0, 0}, {10, 0, 0}, {10, 0, 0}, {10, 0, 0}, {10, 0, 0}},
	} {
		for mode, told := range want {
			wants(t, tell(Whole(f, a, uint8(mode))), told, "Whole", f, uint8(mode), a)
		}
	}
}

// Floats below one, the least ones too, in every form: nought with their sign, or one.
func TestP77BelowOne(t *testing.T) {
	for _, f := range allForms() {
		if f.Exp == 2 {
			continue // one is the least normal float there, and the half a subnormal one
		}
		for _, a := range []uint64{1, normal(f) - 1, normal(f), one(f) - normal(f) - 1} {
			for mode, bits := range [5]uint64{0, 0, 0, one(f), 0} {
				wants(t, tell(Whole(f, a, uint8(mode))), told{bits: bits, flags: inexact}, "Whole", f, uint8(mode), a)
			}
			for mode, bits := range [5]uint64{0, 0, 0, 0, one(f)} {
				wants(t, tell(Whole(f, a+minus(f), uint8(mode))), told{bits: bits + minus(f), flags: inexact}, "Whole", f, uint8(mode), a+minus(f))
			}
		}
	}
}
