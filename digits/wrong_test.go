package digits

import (
	"math"
	"testing"

	"numeral/api"
)

func wrongForms() []api.Form {
	return []api.Form{{}, form(1, 5), form(12, 5), form(5, 0), form(5, 53), form(-5, 10), form(5, -10), form(1, 1), form(math.MaxInt, 10), form(5, math.MinInt), form(math.MaxInt, math.MaxInt), form(64, 64), form(1, 52), form(11, 53), form(2, 0), form(12, 1)}
}

// wrongAsked is what may not be asked for.
func (a ask) wrongAsked() []int {
	return []int{a.least - 1, a.least - 2, -1, most + 1, 2 * most, math.MinInt, math.MaxInt, 1 << 32, 1<<62 + 1}
}

func wrongModes() []uint8 { return []uint8{api.Down + 1, 9, 100, 255} }

// everyKindOfMode is those that may be and those that may not.
func everyKindOfMode() []uint8 { return append(wrongModes(), everyMode...) }

// wrongBits are bits that a form does not have, whatever they would be without what is too much.
func wrongBits(f api.Form) []uint64 {
	if f == double {
		return nil
	}
	beyond := 2 * minus(f)
	return []uint64{beyond, beyond + 1, beyond + minus(f), beyond + infinite(f), beyond + infinite(f) + 1, 1 << 63, math.MaxUint64}
}

// notFinite are infinities and what is no number, quiet or not, with payloads and without.
func notFinite(f api.Form) []uint64 {
	inf, quiet := infinite(f), uint64(1)<<(f.Frac-1)
	return both(f, []uint64{inf, inf + 1, inf + quiet, min(inf+quiet+1, minus(f)-1), max(inf+quiet-1, inf+1), minus(f) - 1})
}

// allRefuse wants all calls that take a float to answer this error, and nothing beside it, whatever else is handed in.
func allRefuse(t *testing.T, f api.Form, bits uint64, want api.Errno) {
	t.Helper()
	if d, e := All(f, bits); d != (api.Dec{}) || e != want {
		t.Errorf("All(%v, %#x): %s, error %d; want the error %d", f, bits, show(d), int(e), int(want))
	}
	if n, e := Count(f, bits); n != 0 || e != want {
		t.Errorf("Count(%v, %#x): %d, error %d; want the error %d", f, bits, n, int(e), int(want))
	}
	for _, a := range asks() {
		for _, asked := range append(a.wrongAsked(), a.least, 7, most) {
			for _, mode := range everyKindOfMode() {
				a.refuses(t, f, bits, asked, mode, want)
			}
		}
	}
}

// A form that may not be comes ahead of all else.
func TestP171P172P173WrongForms(t *testing.T) {
	for _, f := range wrongForms() {
		for _, bits := range []uint64{0, 1, 0x7c00, 0x7e00, 0x10000, math.MaxUint64} {
			allRefuse(t, f, bits, api.ErrForm)
		}
	}
}

func TestP174WrongForms(t *testing.T) {
	for _, f := range wrongForms() {
		if n, e := Enough(f); n != 0 || e != api.ErrForm {
			t.Errorf("Enough(%v): %d, error %d", f, n, int(e))
		}
		if n, e := Sure(f); n != 0 || e != api.ErrForm {
			t.Errorf("Sure(%v): %d, error %d", f, n, int(e))
		}
	}
}

// Bits that the form does not have come ahead of what is asked for and of the mode, and of what is not finite.
func TestP171P172P173WrongBits(t *testing.T) {
	for _, f := range someForms() {
		for _, bits := range wrongBits(f) {
			allRefuse(t, f, bits, api.ErrBits)
		}
	}
	for _, f := range allForms() {
		for _, bits := range wrongBits(f) {
			for _, a := range asks() {
				a.refuses(t, f, bits, a.least, api.Even, api.ErrBits)
				a.refuses(t, f, bits, -1, 9, api.ErrBits)
			}
		}
	}
}

// What is not finite comes ahead of what is asked for and of the mode.
func TestP171P172P173NotFinite(t *testing.T) {
	for _, f := range someForms() {
		for _, bits := range notFinite(f) {
			allRefuse(t, f, bits, api.ErrFinite)
		}
	}
	for _, f := range smallForms() {
		for float := infinite(f); float < minus(f); float++ {
			allRefuse(t, f, float, api.ErrFinite)
			allRefuse(t, f, float+minus(f), api.ErrFinite)
		}
	}
}

// What is asked for comes ahead of the mode; the mode is asked for, even where nothing would be rounded.
func TestP172P173WrongAskedAndModes(t *testing.T) {
	for _, a := range asks() {
		for _, f := range someForms() {
			for _, bits := range edges(f) {
				for _, asked := range a.wrongAsked() {
					for _, mode := range everyKindOfMode() {
						a.refuses(t, f, bits, asked, mode, api.ErrPlaces)
					}
				}
				for _, asked := range []int{a.least, 1, 2, most - 1, most} {
					for _, mode := range wrongModes() {
						a.refuses(t, f, bits, asked, mode, api.ErrMode)
					}
				}
			}
		}
	}
}

func TestP172P173EveryWrongMode(t *testing.T) {
	for _, a := range asks() {
		for mode := int(api.Down) + 1; mode < 256; mode++ {
			a.refuses(t, half, 0x3c00, a.least, uint8(mode), api.ErrMode)
		}
	}
}

// At the bounds themselves all is answered.
func TestP172P173Bounds(t *testing.T) {
	for _, a := range asks() {
		for _, f := range someForms() {
			for _, bits := range edges(f) {
				for _, mode := range everyMode {
					a.is(t, f, bits, most, mode, told{allOf(f, bits), true})
					a.is(t, f, bits, a.least, mode, a.owes(f, bits, a.least, mode))
				}
			}
		}
	}
}
