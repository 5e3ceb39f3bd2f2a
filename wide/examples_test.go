package wide

import (
	"testing"

	"numeral/api"
)

// Every row of the chapter's Examples.

func TestExamplesOfBits(t *testing.T) {
	for _, c := range []struct {
		f    api.Form
		d    api.Dec
		want uint64
		sure bool
	}{
		{double, dc("1", -1), 0x3fb999999999999a, true},
		{double, dc("-1", 23), 0xc4b52d02c7e14af6, true},
		{half, dc("6552", 1), 0x7c00, true},
		{half, dc("65519", 0), 0x7bff, true},
		{double, dc("9007199254740993", 0), 0x4340000000000000, true},
		{double, dc("5", -324), 1, true},
		{double, dc("-", 0), 0x8000000000000000, true},
		{double, dc("90071992547409930000000000000000001", -19), 0, false},
		{double, dc("1", -401), 0, false},
		{double, dc("1", 400), 0x7ff0000000000000, true},
		{double, dc("1", 401), 0, false},
	} {
		if bits, sure, e := Bits(c.f, c.d); bits != c.want || sure != c.sure || e != api.OK {
			t.Errorf("Bits(%v, %s): %#x, %v, error %d; want %#x, %v", c.f, text(c.d), bits, sure, int(e), c.want, c.sure)
		}
	}
}

func TestExamplesOfBetween(t *testing.T) {
	for _, c := range []struct {
		f         api.Form
		d         api.Dec
		low, high uint64
		sure      bool
	}{
		{double, dc("1", -1), 0x3fb9999999999999, 0x3fb999999999999a, true},
		{half, dc("6552", 1), 0x7bff, 0x7c00, true},
		{half, dc("-15", 0), 0xcb80, 0xcb80, true},
		{half, dc("15", -1), 0, 0, false},
		{double, dc("", 0), 0, 0, true},
	} {
		if low, high, sure, e := Between(c.f, c.d); low != c.low || high != c.high || sure != c.sure || e != api.OK {
			t.Errorf("Between(%v, %s): %#x, %#x, %v, error %d; want %#x, %#x, %v", c.f, text(c.d), low, high, sure, int(e), c.low, c.high, c.sure)
		}
	}
}

func TestExamplesOfErrors(t *testing.T) {
	refused(t, api.Form{}, dc("1", 0), api.ErrForm)
	refused(t, double, dc("10", 0), api.ErrDec)
}
