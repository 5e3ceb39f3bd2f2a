package turn

import (
	"math"
	"math/big"
	"testing"

	"numeral/api"
)

// toWant is what To must answer, by the words of P8.1.
func toWant(f, g api.Form, bits uint64, mode uint8) told {
	switch {
	case isNaN(f, bits) && isQuiet(f, bits):
		return told{bits: theNaN(g)}
	case isNaN(f, bits):
		return told{bits: theNaN(g), flags: isInvalid}
	case isInf(f, bits):
		return told{bits: signed(g, infinity(g), isNeg(f, bits))}
	}
	return rounds(g, worth(f, bits), isNeg(f, bits), mode)
}

func checkTo(t *testing.T, f, g api.Form, bits uint64) {
	t.Helper()
	for _, mode := range everyMode {
		if got, want := tell(To(f, g, bits, mode)), toWant(f, g, bits, mode); got != want {
			t.Errorf("To(%v, %v, %#x, mode %d): %#x, flags %d, error %d; want %#x, flags %d", f, g, bits, mode, got.bits, got.flags, int(got.e), want.bits, want.flags)
		}
	}
}

// All floats of the small forms into one another, and into the forms at the ends of the widths.
func TestP81ToOfSmallForms(t *testing.T) {
	t.Parallel()
	eachForm(t, smallForms(), func(t *testing.T, f api.Form) {
		for _, g := range append(smallForms(), edgeForms()...) {
			for bits := range 2 * minus(f) {
				checkTo(t, f, g, bits)
			}
		}
	})
}

func TestP81ToOfAllHalves(t *testing.T) {
	t.Parallel()
	eachForm(t, []api.Form{least, form(4, 3), form(5, 2), brain, form(5, 9), form(4, 10), single, double}, func(t *testing.T, g api.Form) {
		for bits := range 2 * minus(half) {
			checkTo(t, half, g, bits)
		}
	})
}

func TestP81ToOfEdges(t *testing.T) {
	t.Parallel()
	eachForm(t, edgeForms(), func(t *testing.T, f api.Form) {
		for _, g := range edgeForms() {
			for _, bits := range allEdges(f) {
				checkTo(t, f, g, bits)
			}
		}
	})
}

func TestP81ToOfSome(t *testing.T) {
	t.Parallel()
	eachForm(t, edgeForms(), func(t *testing.T, f api.Form) {
		r := source(uint64(100*f.Exp + f.Frac))
		for _, g := range edgeForms() {
			for range 100 {
				checkTo(t, f, g, some(r, f))
			}
		}
	})
	r := source(1)
	all := allForms()
	for _, f := range all {
		for range 5 {
			g := all[r.IntN(len(all))]
			for range 5 {
				checkTo(t, f, g, some(r, f))
			}
		}
	}
}

// about are x, where the form has it, and the floats beside it, all of both signs.
func about(f api.Form, x *big.Rat) []uint64 {
	bits := rounds(f, new(big.Rat).Abs(x), false, api.Even).bits
	if isInf(f, bits) || bits == 0 {
		return nil
	}
	var all []uint64
	for _, b := range []uint64{bits - 1, bits, bits + 1} {
		all = append(all, b, b+minus(f))
	}
	return all
}

// What lies at, and just beside, the halves between two neighbours of the form that is turned into, and these themselves: at its least floats, its least normal ones, its greatest, and the first that overflow.
func TestP81ToAboutHalves(t *testing.T) {
	t.Parallel()
	narrower := []api.Form{half, brain, single, least, form(2, 10), form(11, 1), form(11, 51), form(10, 51), form(4, 3), form(8, 52)}
	eachForm(t, []api.Form{double, single, form(11, 30), form(9, 52)}, func(t *testing.T, f api.Form) {
		r := source(uint64(7*f.Exp + f.Frac))
		for _, g := range narrower {
			places := []uint64{0, 1, 2, normal(g) - 2, normal(g) - 1, normal(g), one(g) - 1, one(g), one(g) + 1, greatest(g) - 1, greatest(g)}
			for range 20 {
				places = append(places, r.Uint64N(infinity(g)))
			}
			for _, bits := range places {
				low, high := worth(g, bits), worth(g, bits+1)
				middle := halfway(low, high)
				for _, x := range []*big.Rat{low, high, middle, halfway(low, middle), halfway(middle, high)} {
					for _, b := range about(f, x) {
						checkTo(t, f, g, b)
					}
				}
			}
		}
	})
}

// The floats at which Single first overflows, and first comes out as nought, written out.
func TestP81DoublesAtTheEndsOfSingle(t *testing.T) {
	const (
		top   = 0x1p128 - 0x1p104 // the greatest Single
		first = 0x1p128 - 0x1p103 // the half between it and what would be next
	)
	for _, c := range []struct {
		v    float64
		want [5]told
	}{
		{top, [5]told{{0x7f7fffff, 0, 0}, {0x7f7fffff, 0, 0}, {0x7f7fffff, 0, 0}, {0x7f7fffff, 0, 0}, {0x7f7fffff, 0, 0}}},
		{math.Nextafter(first, 0), [5]told{{0x7f7fffff, inexact, 0}, {0x7f7fffff, inexact, 0}, {0x7f7fffff, inexact, 0}, {0x7f800000, overflow, 0}, {0x7f7fffff, inexact, 0}}},
		{first, [5]told{{0x7f800000, overflow, 0}, {0x7f800000, overflow, 0}, {0x7f7fffff, inexact, 0}, {0x7f800000, overflow, 0}, {0x7f7fffff, inexact, 0}}},
		{-first, [5]told{{0xff800000, overflow, 0}, {0xff800000, overflow, 0}, {0xff7fffff, inexact, 0}, {0xff7fffff, inexact, 0}, {0xff800000, overflow, 0}}},
		{0x1p128, [5]told{{0x7f800000, overflow, 0}, {0x7f800000, overflow, 0}, {0x7f7fffff, overflow, 0}, {0x7f800000, overflow, 0}, {0x7f7fffff, overflow, 0}}},
		{-0x1p1023, [5]told{{0xff800000, overflow, 0}, {0xff800000, overflow, 0}, {0xff7fffff, overflow, 0}, {0xff7fffff, overflow, 0}, {0xff800000, overflow, 0}}},
		{0x1p-149, [5]told{{1, 0, 0}, {1, 0, 0}, {1, 0, 0}, {1, 0, 0}, {1, 0, 0}}},
		{0x1p-150, [5]told{{0, underflow, 0}, {1, underflow, 0}, {0, underflow, 0}, {1, underflow, 0}, {0, underflow, 0}}},
		{-0x1p-150, [5]told{{1 << 31, underflow, 0}, {1<<31 + 1, underflow, 0}, {1 << 31, underflow, 0}, {1 << 31, underflow, 0}, {1<<31 + 1, underflow, 0}}},
		{0x1p-1074, [5]told{{0, underflow, 0}, {0, underflow, 0}, {0, underflow, 0}, {1, underflow, 0}, {0, underflow, 0}}},
		{0x1p-126 - 0x1p-152, [5]told{{0x800000, inexact, 0}, {0x800000, inexact, 0}, {0x7fffff, underflow, 0}, {0x800000, inexact, 0}, {0x7fffff, underflow, 0}}},
		{0x1p-126 - 0x1p-150, [5]told{{0x800000, underflow, 0}, {0x800000, underflow, 0}, {0x7fffff, underflow, 0}, {0x800000, underflow, 0}, {0x7fffff, underflow, 0}}},
		{0, [5]told{}},
		{math.Copysign(0, -1), [5]told{{1 << 31, 0, 0}, {1 << 31, 0, 0}, {1 << 31, 0, 0}, {1 << 31, 0, 0}, {1 << 31, 0, 0}}},
	} {
		for mode, want := range c.want {
			if got := tell(To(double, single, math.Float64bits(c.v), uint8(mode))); got != want {
				t.Errorf("To(Double, Single, %v, mode %d): %#x, flags %d, error %d; want %#x, flags %d", c.v, mode, got.bits, got.flags, int(got.e), want.bits, want.flags)
			}
		}
	}
}

// Into its own form a number stays as it is, by every mode, and what is no number becomes The NaN.
func TestP81ToItsOwnForm(t *testing.T) {
	for _, f := range allForms() {
		for _, bits := range allEdges(f) {
			want := told{bits: bits}
			if isNaN(f, bits) {
				want = toWant(f, f, bits, api.Even)
			}
			for _, mode := range everyMode {
				if got := tell(To(f, f, bits, mode)); got != want {
					t.Errorf("To(%v, %v, %#x, mode %d): %v, want %v", f, f, bits, mode, got, want)
				}
			}
		}
	}
}

// A payload is lost, also where the other form would have room for it, and so is the sign.
func TestP81NoNumberIsTheNaN(t *testing.T) {
	for _, g := range allForms() {
		for _, c := range []struct {
			bits  uint64
			flags uint8
		}{{0x7e00, 0}, {0x7e01, 0}, {0xfe00, 0}, {0xffff, 0}, {0x7c01, isInvalid}, {0xfdff, isInvalid}} {
			for _, mode := range everyMode {
				if got := tell(To(half, g, c.bits, mode)); got != (told{bits: theNaN(g), flags: c.flags}) {
					t.Errorf("To(Half, %v, %#x, mode %d): %#x, flags %d, error %d", g, c.bits, mode, got.bits, got.flags, int(got.e))
				}
			}
		}
	}
}
