package sure

import (
	"math"
	"testing"

	"numeral/api"
)

func wrongForms() []api.Form {
	return []api.Form{{}, form(1, 5), form(12, 5), form(5, 0), form(5, 53), form(-5, 10), form(5, -10), form(1, 1), form(math.MaxInt, 10), form(5, math.MinInt), form(math.MaxInt, math.MaxInt), form(64, 64), form(1, 52), form(11, 53), form(2, 0), form(12, 1)}
}

// wrongBits are bits that a form does not have, whatever they would be without what is too much.
func wrongBits(f api.Form) []uint64 {
	if f == double {
		return nil
	}
	beyond := 2 * minus(f)
	return []uint64{beyond, beyond + 1, beyond + minus(f), beyond + infinite(f), beyond + infinite(f) + 1, 1 << 63, math.MaxUint64}
}

// notFinite are infinities, and floats that are no numbers, of both signs.
func notFinite(f api.Form) []uint64 {
	inf := infinite(f)
	return both(f, []uint64{inf, inf + 1, inf + normal(f)/2, minus(f) - 1})
}

func wrongCounts() []int {
	return []int{0, -1, -2, -17, 18, 19, 20, 100, 2000, 2001, 1 << 32, 1<<32 + 5, math.MaxInt, math.MinInt}
}

// everyKindOfCount is those that may be and those that may not.
func everyKindOfCount() []int { return append(wrongCounts(), 1, 2, 5, 16, 17) }

// refuses wants this error of both calls, with each count of digits.
func refuses(t *testing.T, f api.Form, bits uint64, want api.Errno) {
	t.Helper()
	digitsAre(t, f, bits, told{e: want})
	for _, n := range everyKindOfCount() {
		someAre(t, f, bits, n, told{e: want})
	}
}

// A form that may not be comes ahead of all else.
func TestP191P192WrongForms(t *testing.T) {
	for _, f := range wrongForms() {
		for _, bits := range []uint64{0, 1, 0x7c00, 0x7e00, 0x10000, 1 << 63, math.MaxUint64} {
			refuses(t, f, bits, api.ErrForm)
		}
	}
}

// Bits that the form does not have come ahead of the count of digits, be they those of infinity but for what is too much.
func TestP191P192WrongBits(t *testing.T) {
	for _, f := range allForms() {
		for _, bits := range wrongBits(f) {
			refuses(t, f, bits, api.ErrBits)
		}
	}
}

// So does a float that is not finite.
func TestP191P192NotFinite(t *testing.T) {
	for _, f := range allForms() {
		for _, bits := range notFinite(f) {
			refuses(t, f, bits, api.ErrFinite)
		}
	}
	for _, f := range append(smallForms(), half) {
		for bits := infinite(f); bits < minus(f); bits++ {
			digitsAre(t, f, bits, told{e: api.ErrFinite})
			digitsAre(t, f, bits+minus(f), told{e: api.ErrFinite})
			someAre(t, f, bits, 0, told{e: api.ErrFinite})
			someAre(t, f, bits+minus(f), 3, told{e: api.ErrFinite})
		}
	}
}

// A wrong count of digits is refused of every finite float, of nought and of one that would not be sure, too.
func TestP192WrongCounts(t *testing.T) {
	for _, f := range someForms() {
		for _, float := range both(f, edges(f)) {
			for _, n := range wrongCounts() {
				someAre(t, f, float, n, told{e: api.ErrPlaces})
			}
		}
	}
	for _, n := range wrongCounts() {
		someAre(t, double, math.Float64bits(25), n, told{e: api.ErrPlaces})
		someAre(t, double, math.Float64bits(1e23), n, told{e: api.ErrPlaces})
	}
	for n := -300; n < 300; n++ {
		if n < 1 || n > 17 {
			someAre(t, half, 0x3c00, n, told{e: api.ErrPlaces})
		} else {
			someAre(t, half, 0x3c00, n, sureOf(dc("1", 0)))
		}
	}
}
