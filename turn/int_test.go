package turn

import (
	"math"
	"math/big"
	"testing"

	"numeral/api"
)

// toldInt is an answer of Int.
type toldInt struct {
	n     int64
	flags uint8
	e     api.Errno
}

func tellInt(n int64, flags uint8, e api.Errno) toldInt { return toldInt{n, flags, e} }

// ends are the lowest and the highest number of a width.
func ends(width int) (low, high *big.Int) {
	top := new(big.Int).Lsh(big.NewInt(1), uint(width-1))
	return new(big.Int).Neg(top), new(big.Int).Sub(top, big.NewInt(1))
}

// intWant is what Int must answer, by the words of P8.2.
func intWant(f api.Form, bits uint64, width int, mode uint8) toldInt {
	low, high := ends(width)
	switch {
	case isNaN(f, bits):
		return toldInt{flags: isInvalid}
	case isInf(f, bits) && isNeg(f, bits):
		return toldInt{n: low.Int64(), flags: isInvalid}
	case isInf(f, bits):
		return toldInt{n: high.Int64(), flags: isInvalid}
	}
	n, same := wholeOf(worth(f, bits), mode)
	switch {
	case n.Cmp(low) < 0:
		return toldInt{n: low.Int64(), flags: isInvalid}
	case n.Cmp(high) > 0:
		return toldInt{n: high.Int64(), flags: isInvalid}
	case !same:
		return toldInt{n: n.Int64(), flags: inexact}
	}
	return toldInt{n: n.Int64()}
}

func checkInt(t *testing.T, f api.Form, bits uint64) {
	t.Helper()
	for _, width := range everyWidth {
		for _, mode := range everyMode {
			if got, want := tellInt(Int(f, bits, width, mode)), intWant(f, bits, width, mode); got != want {
				t.Errorf("Int(%v, %#x, %d, mode %d): %d, flags %d, error %d; want %d, flags %d", f, bits, width, mode, got.n, got.flags, int(got.e), want.n, want.flags)
			}
		}
	}
}

func TestP82IntOfSmallForms(t *testing.T) {
	t.Parallel()
	eachForm(t, append(smallForms(), half, brain, form(2, 9), form(9, 1)), func(t *testing.T, f api.Form) {
		for bits := range 2 * minus(f) {
			checkInt(t, f, bits)
		}
	})
}

func TestP82IntOfEdges(t *testing.T) {
	t.Parallel()
	for _, f := range allForms() {
		for _, bits := range allEdges(f) {
			checkInt(t, f, bits)
		}
	}
}

// Every quarter about the ends of each width, and about nought, where the form has it, and the floats beside it.
func TestP82IntAboutTheEnds(t *testing.T) {
	t.Parallel()
	eachForm(t, []api.Form{double, single, form(8, 40), form(10, 51), form(5, 15), form(7, 52), form(4, 12), form(6, 33)}, func(t *testing.T, f api.Form) {
		for _, width := range everyWidth {
			low, high := ends(width)
			for _, end := range []*big.Int{low, high, big.NewInt(0)} {
				for quarters := int64(-12); quarters <= 12; quarters++ {
					x := plus(new(big.Rat).SetInt(end), big.NewRat(quarters, 4))
					if bits, has := inForm(f, x); has {
						checkInt(t, f, bits)
					}
					for _, bits := range about(f, x) {
						checkInt(t, f, bits)
					}
				}
			}
		}
	})
}

func TestP82IntOfSome(t *testing.T) {
	t.Parallel()
	eachForm(t, edgeForms(), func(t *testing.T, f api.Form) {
		r := source(uint64(200*f.Exp + f.Frac))
		for range 500 {
			checkInt(t, f, some(r, f))
		}
	})
	// Doubles of all sizes up to a little beyond 64 bits.
	r := source(82)
	for range 3000 {
		x := math.Ldexp(float64(r.Uint64()), -r.IntN(70)+2)
		checkInt(t, double, math.Float64bits(x))
		checkInt(t, double, math.Float64bits(-x))
	}
}

// 2^63 has no number of 64 bits, its negative has.
func TestP82IntAtSixtyFourBits(t *testing.T) {
	const lowest, highest = math.MinInt64, math.MaxInt64
	for _, c := range []struct {
		v    float64
		want toldInt
	}{
		{0x1p63, toldInt{highest, isInvalid, 0}},
		{-0x1p63, toldInt{lowest, 0, 0}},
		{0x1p63 - 0x1p10, toldInt{highest - 1023, 0, 0}},
		{-0x1p63 - 0x1p11, toldInt{lowest, isInvalid, 0}},
		{0x1p64, toldInt{highest, isInvalid, 0}},
		{-0x1p64, toldInt{lowest, isInvalid, 0}},
		{math.MaxFloat64, toldInt{highest, isInvalid, 0}},
		{-math.MaxFloat64, toldInt{lowest, isInvalid, 0}},
		{math.Inf(1), toldInt{highest, isInvalid, 0}},
		{math.Inf(-1), toldInt{lowest, isInvalid, 0}},
		{math.NaN(), toldInt{0, isInvalid, 0}},
		{0x1p53 + 2, toldInt{1<<53 + 2, 0, 0}},
	} {
		for _, mode := range everyMode {
			if got := tellInt(Int(double, math.Float64bits(c.v), 64, mode)); got != c.want {
				t.Errorf("Int(Double, %v, 64, mode %d): %v, want %v", c.v, mode, got, c.want)
			}
		}
	}
}

// Halves at the ends of 8 bits, by each mode, written out.
func TestP82HalvesAtTheEnds(t *testing.T) {
	in, out := uint8(inexact), uint8(isInvalid)
	for _, c := range []struct {
		v    float64
		want [5]toldInt
	}{
		{127.5, [5]toldInt{{127, out, 0}, {127, out, 0}, {127, in, 0}, {127, out, 0}, {127, in, 0}}},
		{126.5, [5]toldInt{{126, in, 0}, {127, in, 0}, {126, in, 0}, {127, in, 0}, {126, in, 0}}},
		{127.25, [5]toldInt{{127, in, 0}, {127, in, 0}, {127, in, 0}, {127, out, 0}, {127, in, 0}}},
		{128, [5]toldInt{{127, out, 0}, {127, out, 0}, {127, out, 0}, {127, out, 0}, {127, out, 0}}},
		{-128, [5]toldInt{{-128, 0, 0}, {-128, 0, 0}, {-128, 0, 0}, {-128, 0, 0}, {-128, 0, 0}}},
		{-128.5, [5]toldInt{{-128, in, 0}, {-128, out, 0}, {-128, in, 0}, {-128, in, 0}, {-128, out, 0}}},
		{-128.75, [5]toldInt{{-128, out, 0}, {-128, out, 0}, {-128, in, 0}, {-128, in, 0}, {-128, out, 0}}},
		{-129, [5]toldInt{{-128, out, 0}, {-128, out, 0}, {-128, out, 0}, {-128, out, 0}, {-128, out, 0}}},
		{-0.5, [5]toldInt{{0, in, 0}, {-1, in, 0}, {0, in, 0}, {0, in, 0}, {-1, in, 0}}},
		{0.5, [5]toldInt{{0, in, 0}, {1, in, 0}, {0, in, 0}, {1, in, 0}, {0, in, 0}}},
	} {
		for mode, want := range c.want {
			if got := tellInt(Int(double, math.Float64bits(c.v), 8, uint8(mode))); got != want {
				t.Errorf("Int(Double, %v, 8, mode %d): %v, want %v", c.v, mode, got, want)
			}
		}
	}
}

// wholes are numbers of all lengths: at the ends of the widths, at the powers of two, and some between.
func wholes() []int64 {
	all := []int64{0, 1, -1, 2049, -2049, 65504, 65519, 65520, 65535, 65536, -65535, -65536, math.MaxInt64, math.MaxInt64 - 1, math.MinInt64, math.MinInt64 + 1}
	for shift := range 63 {
		p := int64(1) << shift
		for _, n := range []int64{p - 1, p, p + 1, p + p/2, p + p/2 - 1, p + p/2 + 1} {
			all = append(all, n, -n)
		}
	}
	r := source(83)
	for range 300 {
		n := int64(r.Uint64() >> r.IntN(64))
		all = append(all, n, -n)
	}
	return all
}

func checkFromInt(t *testing.T, f api.Form, n int64) {
	t.Helper()
	for _, mode := range everyMode {
		want := rounds(f, new(big.Rat).SetInt64(n), false, mode)
		if got := tell(FromInt(f, n, mode)); got != want {
			t.Errorf("FromInt(%v, %d, mode %d): %#x, flags %d, error %d; want %#x, flags %d", f, n, mode, got.bits, got.flags, int(got.e), want.bits, want.flags)
		}
	}
}

func TestP83FromInt(t *testing.T) {
	t.Parallel()
	eachForm(t, append(edgeForms(), smallForms()...), func(t *testing.T, f api.Form) {
		for _, n := range wholes() {
			checkFromInt(t, f, n)
		}
	})
	for _, f := range allForms() {
		for _, n := range []int64{0, 1, -1, 3, -7, 1000001, -1<<40 - 1, math.MaxInt64, math.MinInt64} {
			checkFromInt(t, f, n)
		}
	}
}

// Whole numbers at, and beside, the halves between two neighbours.
func TestP83FromIntAboutHalves(t *testing.T) {
	t.Parallel()
	eachForm(t, []api.Form{half, single, double, brain, form(11, 1), form(11, 51), form(7, 30)}, func(t *testing.T, f api.Form) {
		r := source(uint64(83*f.Exp + f.Frac))
		for range 200 {
			bits := r.Uint64N(infinity(f))
			middle := halfway(worth(f, bits), worth(f, bits+1))
			if !middle.IsInt() || !middle.Num().IsInt64() {
				continue
			}
			n := middle.Num().Int64()
			for _, m := range []int64{n - 1, n, n + 1} {
				checkFromInt(t, f, m)
				checkFromInt(t, f, -m)
			}
		}
	})
}

// Nought has no minus, by no mode.
func TestP83FromIntOfNought(t *testing.T) {
	for _, f := range allForms() {
		for _, mode := range everyMode {
			if got := tell(FromInt(f, 0, mode)); got != (told{}) {
				t.Errorf("FromInt(%v, 0, mode %d): %v", f, mode, got)
			}
		}
	}
}
