package turn

import (
	"math"
	"testing"

	"numeral/api"
)

func wrongForms() []api.Form {
	return []api.Form{{}, form(1, 5), form(12, 5), form(5, 0), form(5, 53), form(-5, 10), form(5, -10), form(math.MaxInt, 10), form(5, math.MinInt), form(math.MaxInt, math.MaxInt), form(64, 64), form(1, 52), form(11, 53), form(2, 0), form(12, 1)}
}

func wrongWidths() []int {
	return []int{0, 1, 7, 9, 15, 17, 24, 31, 33, 48, 63, 65, 128, 256 + 8, 1<<32 + 8, -8, -16, -32, -64, math.MaxInt, math.MinInt}
}

// someModes are some that may be and some that may not.
func someModes() []uint8 { return []uint8{api.Even, api.Down, api.Down + 1, 100, 255} }

// modeError is what a mode alone must tell.
func modeError(mode uint8) api.Errno {
	if mode > api.Down {
		return api.ErrMode
	}
	return api.OK
}

// first is the first error of those that the arguments, from the left, must tell.
func first(errs ...api.Errno) api.Errno {
	for _, e := range errs {
		if e != api.OK {
			return e
		}
	}
	return api.OK
}

// wantsError wants it, and nothing beside it, of every call that takes these; where it is OK, nothing is asked of the answer.
func wantsError(t *testing.T, what string, got, want told) {
	t.Helper()
	if want.e == api.OK {
		want = told{got.bits, got.flags, api.OK}
	}
	if got != want {
		t.Errorf("%s: %#x, flags %d, error %d; want the error %d", what, got.bits, got.flags, int(got.e), int(want.e))
	}
}

func wantsErrorOfInt(t *testing.T, f api.Form, bits uint64, width int, mode uint8, want api.Errno) {
	t.Helper()
	got := tellInt(Int(f, bits, width, mode))
	if got.e != want || want != api.OK && got != (toldInt{e: want}) {
		t.Errorf("Int(%v, %#x, %d, mode %d): %d, flags %d, error %d; want the error %d", f, bits, width, mode, got.n, got.flags, int(got.e), int(want))
	}
}

func wantsErrorOfFrom(t *testing.T, f api.Form, bits uint64, want api.Errno) {
	t.Helper()
	if v, e := From[float64](f, bits); e != want || want != api.OK && math.Float64bits(v) != 0 {
		t.Errorf("From[float64](%v, %#x): %v, error %d; want the error %d", f, bits, v, int(e), int(want))
	}
	if v, e := From[ownSingle](f, bits); e != want || want != api.OK && math.Float32bits(float32(v)) != 0 {
		t.Errorf("From of an own float32 (%v, %#x): %v, error %d; want the error %d", f, bits, v, int(e), int(want))
	}
}

// A form that may not be, in each place, comes ahead of bits, width and mode.
func TestP81WrongForms(t *testing.T) {
	for _, wrong := range wrongForms() {
		for _, bits := range []uint64{0, 1, 0x7c00, 0x7e00, 0x10000, math.MaxUint64} {
			for _, mode := range someModes() {
				wantsError(t, "To of a wrong form", tell(To(wrong, half, bits, mode)), told{e: api.ErrForm})
				wantsError(t, "To a wrong form", tell(To(half, wrong, bits, mode)), told{e: api.ErrForm})
				wantsError(t, "To of and to wrong forms", tell(To(wrong, wrong, bits, mode)), told{e: api.ErrForm})
			}
		}
	}
}

func TestP82P83P85WrongForms(t *testing.T) {
	for _, wrong := range wrongForms() {
		for _, bits := range []uint64{0, 1, 0x7c00, 0x7e00, 0x10000, math.MaxUint64} {
			for _, mode := range someModes() {
				for _, width := range append(wrongWidths(), everyWidth...) {
					wantsErrorOfInt(t, wrong, bits, width, mode, api.ErrForm)
				}
				wantsError(t, "FromInt of a wrong form", tell(FromInt(wrong, int64(bits), mode)), told{e: api.ErrForm})
			}
			wantsErrorOfFrom(t, wrong, bits, api.ErrForm)
		}
	}
}

// Bits beyond the form come ahead of width and mode, whatever they would be without what is too much.
func TestP81P82P85WrongBits(t *testing.T) {
	for _, f := range allForms() {
		if f == double {
			continue
		}
		last := 2*minus(f) - 1
		for _, wrong := range []uint64{last + 1, last + 1 + infinity(f), last + 1 + theNaN(f), 1 << 63, math.MaxUint64} {
			for _, mode := range someModes() {
				for _, g := range []api.Form{double, least, f} {
					wantsError(t, "To of wrong bits", tell(To(f, g, wrong, mode)), told{e: api.ErrBits})
				}
				wantsErrorOfInt(t, f, wrong, 8, mode, api.ErrBits)
				wantsErrorOfInt(t, f, wrong, 24, mode, api.ErrBits)
			}
			wantsErrorOfFrom(t, f, wrong, api.ErrBits)
		}
		wantsError(t, "To of the last bits", tell(To(f, least, last, api.Even)), told{})
		wantsErrorOfInt(t, f, last, 8, api.Even, api.OK)
		wantsErrorOfFrom(t, f, last, api.OK)
	}
}

// The bits are held against the form that they come from, not against the other one.
func TestP81BitsOfTheFirstForm(t *testing.T) {
	wantsError(t, "To(Half, Double, 0x10000)", tell(To(half, double, 0x10000, api.Even)), told{e: api.ErrBits})
	wantsError(t, "To(Double, Half, 0x10000)", tell(To(double, half, 0x10000, api.Even)), told{})
	wantsError(t, "To(Double, Half, all bits)", tell(To(double, half, math.MaxUint64, api.Even)), told{})
}

// The kinds of floats of a form, whose answers hang on the mode or not.
func kinds(f api.Form) []uint64 {
	return []uint64{0, minus(f), 1, one(f), one(f) + 1, greatest(f), infinity(f), minus(f) + infinity(f), infinity(f) + 1, theNaN(f)}
}

// A width that is none comes ahead of the mode, whatever the float is.
func TestP82WrongWidths(t *testing.T) {
	for _, f := range edgeForms() {
		for _, bits := range kinds(f) {
			for _, width := range wrongWidths() {
				for _, mode := range someModes() {
					wantsErrorOfInt(t, f, bits, width, mode, api.ErrWidth)
				}
			}
		}
	}
}

// A mode above the last, whatever the float is: also where no rounding would be asked for.
func TestP81P82P83WrongModes(t *testing.T) {
	for _, f := range edgeForms() {
		for mode := 5; mode < 256; mode++ {
			for _, bits := range kinds(f) {
				wantsError(t, "To by a wrong mode", tell(To(f, half, bits, uint8(mode))), told{e: api.ErrMode})
				wantsError(t, "To its own form by a wrong mode", tell(To(f, f, bits, uint8(mode))), told{e: api.ErrMode})
				for _, width := range everyWidth {
					wantsErrorOfInt(t, f, bits, width, uint8(mode), api.ErrMode)
				}
			}
			for _, n := range []int64{0, 1, -1, math.MaxInt64, math.MinInt64} {
				wantsError(t, "FromInt by a wrong mode", tell(FromInt(f, n, uint8(mode))), told{e: api.ErrMode})
			}
		}
	}
}

// R1: whatever is handed in, the calls end and tell the first error from the left.
func TestAnythingAtAll(t *testing.T) {
	r := source(12)
	formError := func(f api.Form) api.Errno {
		if f.Exp < 2 || f.Exp > 11 || f.Frac < 1 || f.Frac > 52 {
			return api.ErrForm
		}
		return api.OK
	}
	bitsError := func(f api.Form, bits uint64) api.Errno {
		if formError(f) == api.OK && bits>>(f.Exp+f.Frac)>>1 != 0 {
			return api.ErrBits
		}
		return api.OK
	}
	for range 20000 {
		f, g := form(r.IntN(14), r.IntN(55)), form(r.IntN(14), r.IntN(55))
		bits, mode, width := r.Uint64()>>r.IntN(64), uint8(r.IntN(7)), 8*r.IntN(10)
		widthError := api.ErrWidth
		if width == 8 || width == 16 || width == 32 || width == 64 {
			widthError = api.OK
		}
		wantsError(t, "To", tell(To(f, g, bits, mode)), told{e: first(formError(f), formError(g), bitsError(f, bits), modeError(mode))})
		wantsErrorOfInt(t, f, bits, width, mode, first(formError(f), bitsError(f, bits), widthError, modeError(mode)))
		wantsError(t, "FromInt", tell(FromInt(f, int64(bits), mode)), told{e: first(formError(f), modeError(mode))})
		wantsErrorOfFrom(t, f, bits, first(formError(f), bitsError(f, bits)))
	}
}
