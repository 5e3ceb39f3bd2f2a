package hex

import (
	"math"
	"testing"

	"numeral/api"
)

func wrongForms() []api.Form {
	return []api.Form{{}, form(1, 5), form(12, 5), form(5, 0), form(5, 53), form(-5, 10), form(5, -10), form(1, 1), form(math.MaxInt, 10), form(5, math.MinInt), form(math.MaxInt, math.MaxInt), form(64, 64), form(1, 52), form(11, 53), form(2, 0), form(12, 1)}
}

func wrongPlaces() []int {
	return []int{-1, -2, api.MaxPlaces + 1, 2 * api.MaxPlaces, math.MinInt, math.MaxInt, 1 << 32, 1<<62 + 1}
}

func wrongModes() []uint8 { return []uint8{api.Down + 1, 9, 100, 255} }

// wrongBits are bits that a form does not have, whatever they would be without what is too much.
func wrongBits(f api.Form) []uint64 {
	if f == double {
		return nil
	}
	beyond := last(f) + 1
	return []uint64{beyond, beyond + 1, beyond + infinity(f), beyond + infinity(f) + 1, 1 << 63, math.MaxUint64}
}

// someTexts are of every kind: such as are read, and such as are not.
func someTexts() []string {
	return []string{"", "x", "0x1p0", "-0x0", "1.5", "nan", "0x7e01", "0x7", "0xf", "0xff", "\xff", again("0", most), again("0", most+1)}
}

func noPrint(t *testing.T, f api.Form, bits uint64, want api.Errno) {
	t.Helper()
	if s, e := Print(f, bits); s != "" || e != want {
		t.Errorf("Print(%v, %#x): %s, error %d; want the error %d", f, bits, shortened(s), int(e), int(want))
	}
}

func noPlaces(t *testing.T, f api.Form, bits uint64, places int, mode uint8, want api.Errno) {
	t.Helper()
	if s, e := Places(f, bits, places, mode); s != "" || e != want {
		t.Errorf("Places(%v, %#x, %d, mode %d): %s, error %d; want the error %d", f, bits, places, mode, shortened(s), int(e), int(want))
	}
}

func noDump(t *testing.T, f api.Form, bits uint64, want api.Errno) {
	t.Helper()
	if s, e := Dump(f, bits); s != "" || e != want {
		t.Errorf("Dump(%v, %#x): %s, error %d; want the error %d", f, bits, shortened(s), int(e), int(want))
	}
}

// everyPlaces and everyKindOfMode are those that may be and those that may not.
func everyPlaces() []int { return append(wrongPlaces(), 0, 1, 7, api.MaxPlaces) }

func everyKindOfMode() []uint8 { return append(wrongModes(), everyMode...) }

// A form that may not be comes ahead of all else.
func TestP121P122P124WrongForms(t *testing.T) {
	for _, f := range wrongForms() {
		for _, bits := range []uint64{0, 1, 0x7c00, 0x7e00, 0x10000, math.MaxUint64} {
			noPrint(t, f, bits, api.ErrForm)
			noDump(t, f, bits, api.ErrForm)
			for _, places := range everyPlaces() {
				for _, mode := range everyKindOfMode() {
					noPlaces(t, f, bits, places, mode, api.ErrForm)
				}
			}
		}
	}
}

func TestP123P124WrongFormsOfTexts(t *testing.T) {
	for _, f := range wrongForms() {
		for _, s := range someTexts() {
			for _, mode := range everyKindOfMode() {
				notRead(t, f, s, mode, api.ErrForm, 0)
			}
			loadedAs(t, f, s, 0, 0, api.ErrForm)
		}
	}
}

// Bits that the form does not have come ahead of places and mode, and of what is not finite.
func TestP121P122P124WrongBits(t *testing.T) {
	for _, f := range allForms() {
		for _, bits := range wrongBits(f) {
			noPrint(t, f, bits, api.ErrBits)
			noDump(t, f, bits, api.ErrBits)
			for _, places := range []int{0, 5, -1, api.MaxPlaces + 1} {
				for _, mode := range []uint8{api.Even, 9} {
					noPlaces(t, f, bits, places, mode, api.ErrBits)
				}
			}
		}
	}
}

// Places comes ahead of mode, and mode ahead of what is not finite.
func TestP122WrongPlacesAndModes(t *testing.T) {
	for _, f := range namedForms() {
		for _, bits := range append(edges(f), notFinite(f)...) {
			for _, places := range wrongPlaces() {
				for _, mode := range everyKindOfMode() {
					noPlaces(t, f, bits, places, mode, api.ErrPlaces)
				}
			}
			for _, places := range []int{0, 1, api.MaxPlaces} {
				for _, mode := range wrongModes() {
					noPlaces(t, f, bits, places, mode, api.ErrMode)
				}
			}
		}
	}
}

func TestP121P122NotFinite(t *testing.T) {
	for _, f := range allForms() {
		for _, bits := range notFinite(f) {
			noPrint(t, f, bits, api.ErrFinite)
			for _, places := range []int{0, 3, api.MaxPlaces} {
				for _, mode := range everyMode {
					noPlaces(t, f, bits, places, mode, api.ErrFinite)
				}
			}
		}
	}
	for _, f := range smallForms() {
		for _, bits := range everyBits(f) {
			if !isFinite(f, bits) {
				noPrint(t, f, bits, api.ErrFinite)
				noPlaces(t, f, bits, 1, api.Even, api.ErrFinite)
			}
		}
	}
}

// A mode comes ahead of all that may be wrong with the text.
func TestP123WrongModes(t *testing.T) {
	for mode := int(api.Down) + 1; mode < 256; mode++ {
		for _, s := range someTexts() {
			notRead(t, half, s, uint8(mode), api.ErrMode, 0)
		}
	}
}
