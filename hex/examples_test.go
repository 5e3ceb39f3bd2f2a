package hex

import (
	"math"
	"testing"

	"numeral/api"
)

// Every row of the chapter's Examples.

func TestExamplesOfPrint(t *testing.T) {
	printedAs(t, double, math.Float64bits(1.5), "0x1.8p0")
	printedAs(t, double, math.Float64bits(10), "0x1.4p3")
	printedAs(t, double, math.Float64bits(math.Copysign(0, -1)), "-0x0p0")
	printedAs(t, double, 1, "0x1p-1074")
	printedAs(t, single, uint64(math.Float32bits(0.1)), "0x1.99999ap-4")
	printedAs(t, half, 3, "0x1.8p-23")
	if s, e := Print(half, 0x7c00); s != "" || e != api.ErrFinite {
		t.Errorf("Print(Half, 0x7c00): %s, error %d", s, int(e))
	}
}

func TestExamplesOfPlaces(t *testing.T) {
	x, y := math.Float64bits(1.9375), math.Float64bits(-1.03125)
	placedAs(t, double, x, 1, api.Even, "0x1.fp0")
	placedAs(t, double, x, 0, api.Even, "0x1p1")
	placedAs(t, double, x, 0, api.Zero, "0x1p0")
	placedAs(t, double, x, 3, api.Even, "0x1.f00p0")
	placedAs(t, double, y, 1, api.Even, "-0x1.0p0")
	placedAs(t, double, y, 1, api.Down, "-0x1.1p0")
	placedAs(t, double, y, 1, api.Up, "-0x1.0p0")
	placedAs(t, double, y, 1, api.Away, "-0x1.1p0")
	placedAs(t, double, 0, 2, api.Up, "0x0.00p0")
	if s, e := Places(double, math.Float64bits(1), -1, 9); s != "" || e != api.ErrPlaces {
		t.Errorf("Places(Double, 1, -1, 9): %s, error %d", s, int(e))
	}
	if s, e := Places(half, 0x7c00, 2001, 0); s != "" || e != api.ErrPlaces {
		t.Errorf("Places(Half, 0x7c00, 2001, 0): %s, error %d", s, int(e))
	}
}

func TestExamplesOfRead(t *testing.T) {
	readAs(t, half, "0x1.8p-23", api.Zero, 3, 0)
	readAs(t, half, "0x1p-25", api.Even, 0, underflow)
	readAs(t, half, "0x1p-25", api.Up, 1, underflow)
	readAs(t, half, "-0x0p7", api.Down, 0x8000, 0)
	notRead(t, half, "1.5", api.Even, api.ErrHex, 0)
	notRead(t, api.Form{}, "x", 9, api.ErrForm, 0)
}

func TestExamplesOfDumpAndLoad(t *testing.T) {
	for _, c := range []struct {
		f    api.Form
		bits uint64
		want string
	}{{half, 0x7e01, "0x7e01"}, {form(2, 1), 15, "0xf"}, {form(3, 2), 5, "0x05"}} {
		if s, e := Dump(c.f, c.bits); s != c.want || e != api.OK {
			t.Errorf("Dump(%v, %#x): %s, error %d; want %s", c.f, c.bits, s, int(e), c.want)
		}
	}
	loadedAs(t, half, "0X7E01", 0x7e01, 0, api.OK)
	loadedAs(t, form(3, 2), "0x3f", 0x3f, 0, api.OK)
	loadedAs(t, form(3, 2), "0x40", 0, 2, api.ErrBits)
	loadedAs(t, half, "0x7e0", 0, 5, api.ErrSyntax)
	loadedAs(t, half, "0x7e010", 0, 6, api.ErrSyntax)
	loadedAs(t, half, "x7", 0, 0, api.ErrSyntax)
	loadedAs(t, half, "0x7g01", 0, 3, api.ErrSyntax)
	loadedAs(t, half, "", 0, 0, api.ErrSyntax)
}
