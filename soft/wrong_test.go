package soft

import (
	"math"
	"testing"

	"numeral/api"
)

// everyCall tells the error of each call with these arguments, and reports results beside an error that are not zero; those with fewer operands take the first ones.
func everyCall(t *testing.T, f api.Form, a, b, c uint64, mode uint8) map[string]api.Errno {
	t.Helper()
	errs := map[string]api.Errno{}
	for what, answer := range map[string]told{
		"Add": tell(Add(f, a, b, mode)), "Sub": tell(Sub(f, a, b, mode)), "Mul": tell(Mul(f, a, b, mode)), "Div": tell(Div(f, a, b, mode)),
		"Sqrt": tell(Sqrt(f, a, mode)), "Whole": tell(Whole(f, a, mode)), "Fma": tell(Fma(f, a, b, c, mode)),
	} {
		errs[what] = answer.e
		if answer.e != api.OK && (answer.bits != 0 || answer.flags != 0) {
			t.Errorf("%s(%v, %#x, %#x, %#x, mode %d): %#x, flags %d beside the error %d", what, f, a, b, c, mode, answer.bits, answer.flags, int(answer.e))
		}
	}
	for what, answer := range map[string]toldBits{
		"Neg": tellBits(Neg(f, a)), "Abs": tellBits(Abs(f, a)), "Min": tellBits(Min(f, a, b)), "Max": tellBits(Max(f, a, b)),
	} {
		errs[what] = answer.e
		if answer.e != api.OK && answer.bits != 0 {
			t.Errorf("%s(%v, %#x, %#x): %#x beside the error %d", what, f, a, b, answer.bits, int(answer.e))
		}
	}
	return errs
}

// How many floats each call takes, and which calls have no mode.
var (
	operandsOf  = map[string]int{"Add": 2, "Sub": 2, "Mul": 2, "Div": 2, "Sqrt": 1, "Whole": 1, "Fma": 3, "Neg": 1, "Abs": 1, "Min": 2, "Max": 2}
	withoutMode = map[string]bool{"Neg": true, "Abs": true, "Min": true, "Max": true}
)

// wantsError wants an error of every call that takes so many operands or more; of the others what they would answer without it.
func wantsError(t *testing.T, f api.Form, a, b, c uint64, mode uint8, place int, want, others api.Errno) {
	t.Helper()
	for what, e := range everyCall(t, f, a, b, c, mode) {
		owed := want
		if operandsOf[what] < place {
			owed = others
		}
		if owed == api.ErrMode && withoutMode[what] {
			owed = api.OK
		}
		if e != owed {
			t.Errorf("%s(%v, %#x, %#x, %#x, mode %d): error %d, want %d", what, f, a, b, c, mode, int(e), int(owed))
		}
	}
}

func wrongForms() []api.Form {
	return []api.Form{{}, form(1, 5), form(12, 5), form(5, 0), form(5, 53), form(-5, 10), form(5, -10), form(math.MaxInt, 10), form(5, math.MinInt), form(math.MaxInt, math.MaxInt), form(64, 64), form(1, 52), form(11, 53), form(2, 0), form(12, 1)}
}

// A form that may not be comes ahead of all.
func TestP71WrongForms(t *testing.T) {
	for _, f := range wrongForms() {
		for _, bits := range []uint64{0, 1, 0x7e00, math.MaxUint64} {
			for _, mode := range []uint8{api.Even, api.Down, api.Down + 1, 255} {
				wantsError(t, f, bits, bits, bits, mode, 1, api.ErrForm, api.OK)
				wantsError(t, f, bits, 0, math.MaxUint64, mode, 1, api.ErrForm, api.OK)
			}
		}
	}
}

// Bits beyond the form, in each place, come ahead of the mode, and of what the other floats are.
func TestP71WrongBits(t *testing.T) {
	for _, f := range allForms() {
		if f == double {
			continue
		}
		nan := infinity(f) + 1
		for _, wrong := range []uint64{2 * minus(f), 2*minus(f) + nan, 3 * minus(f), 1 << 63, math.MaxUint64} {
			if wrong < 2*minus(f) {
				continue // three sign bits of the widest forms but one have wrapped round
			}
			for _, other := range []uint64{0, minus(f), one(f), infinity(f), nan} {
				for _, mode := range []uint8{api.Even, api.Down, api.Down + 1, 255} {
					others := api.OK
					if mode > api.Down {
						others = api.ErrMode
					}
					wantsError(t, f, wrong, other, other, mode, 1, api.ErrBits, others)
					wantsError(t, f, other, wrong, other, mode, 2, api.ErrBits, others)
					wantsError(t, f, other, other, wrong, mode, 3, api.ErrBits, others)
					wantsError(t, f, wrong, wrong, wrong, mode, 1, api.ErrBits, others)
				}
			}
		}
	}
}

// The greatest form has all bits.
func TestP71AllBitsOfTheGreatestForm(t *testing.T) {
	wantsError(t, double, math.MaxUint64, math.MaxUint64, math.MaxUint64, api.Even, 1, api.OK, api.OK)
	wantsError(t, double, math.MaxUint64, 1<<63, 1<<63-1, api.Down, 1, api.OK, api.OK)
}

// A mode above the last, whatever the floats are: also where no rounding would be asked for.
func TestP71WrongModes(t *testing.T) {
	for _, f := range edgeForms() {
		for mode := 5; mode < 256; mode++ {
			for _, a := range []uint64{0, minus(f), 1, one(f), infinity(f), minus(f) + infinity(f), infinity(f) + 1, theNaN(f)} {
				for _, b := range []uint64{0, one(f), infinity(f), theNaN(f)} {
					wantsError(t, f, a, b, b, uint8(mode), 1, api.ErrMode, api.OK)
				}
			}
		}
	}
}

// R1: whatever is handed in, the calls end and tell an error that the chapter has.
func TestAnythingAtAll(t *testing.T) {
	r := source(12)
	has := map[api.Errno]bool{api.OK: true, api.ErrForm: true, api.ErrBits: true, api.ErrMode: true}
	bits := func() uint64 { return r.Uint64() >> r.IntN(64) }
	for range 5000 {
		f := form(r.IntN(14), r.IntN(55))
		for what, e := range everyCall(t, f, bits(), bits(), bits(), uint8(r.IntN(7))) {
			if !has[e] {
				t.Errorf("%s in %v: error %d", what, f, int(e))
			}
		}
	}
}
