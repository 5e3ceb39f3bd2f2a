package sure

import (
	"math"
	"testing"

	"numeral/api"
)

// Every row of the chapter's Examples.

func TestExamplesOfDigits(t *testing.T) {
	for _, c := range []struct {
		f    api.Form
		bits uint64
		want told
	}{
		{double, math.Float64bits(0.1), sureOf(dc("1", -1))},
		{double, math.Float64bits(-1.5), sureOf(dc("-15", -1))},
		{double, math.Float64bits(1 << 53), sureOf(dc("9007199254740992", 0))},
		{double, math.Float64bits(5e-324), sureOf(dc("5", -324))},
		{half, 0x7bff, sureOf(dc("655", 2))},
		{double, math.Float64bits(1e23), told{}},
		{double, 0x8000000000000000, sureOf(dc("-", 0))},
		{half, 0x7c00, told{e: api.ErrFinite}},
		{half, 0x10000, told{e: api.ErrBits}},
		{api.Form{}, 0, told{e: api.ErrForm}},
	} {
		digitsAre(t, c.f, c.bits, c.want)
	}
}

func TestExamplesOfSome(t *testing.T) {
	for _, c := range []struct {
		f    api.Form
		bits uint64
		n    int
		want told
	}{
		{double, math.Float64bits(0.1), 17, sureOf(dc("10000000000000001", -17))},
		{double, math.Float64bits(0.1), 3, sureOf(dc("1", -1))},
		{half, 0x7bff, 4, sureOf(dc("655", 2))},
		{double, math.Float64bits(2.5), 1, sureOf(dc("2", 0))},
		{double, math.Float64bits(9.5), 1, sureOf(dc("1", 1))},
		{half, 0x3c00, 0, told{e: api.ErrPlaces}},
		{half, 0x3c00, 18, told{e: api.ErrPlaces}},
		{half, 0x7c00, 0, told{e: api.ErrFinite}},
		{double, math.Float64bits(0x1p-30), 17, sureOf(dc("93132257461547852", -26))},
		{double, math.Float64bits(0x1p-25), 17, sureOf(dc("29802322387695312", -24))},
		{double, math.Float64bits(25), 1, told{}},
	} {
		someAre(t, c.f, c.bits, c.n, c.want)
	}
}
