package turn

import (
	"math"
	"testing"

	"numeral/api"
)

// Every row of the chapter's Examples.

func TestExamplesOfTo(t *testing.T) {
	third := math.Float64bits(1.0 / 3)
	for _, c := range []struct {
		f, g api.Form
		bits uint64
		mode uint8
		want told
	}{
		{double, half, third, api.Even, told{0x3555, inexact, 0}},
		{double, half, math.Float64bits(65520), api.Even, told{0x7c00, overflow, 0}},
		{double, half, math.Float64bits(65519.99), api.Even, told{0x7bff, inexact, 0}},
		{half, double, 1, api.Even, told{0x3e70000000000000, 0, 0}},
		{half, double, 1, api.Away, told{0x3e70000000000000, 0, 0}},
		{half, double, 1, api.Zero, told{0x3e70000000000000, 0, 0}},
		{half, double, 1, api.Up, told{0x3e70000000000000, 0, 0}},
		{half, double, 1, api.Down, told{0x3e70000000000000, 0, 0}},
		{half, single, 0x7e01, api.Even, told{0x7fc00000, 0, 0}},
		{half, single, 0xfc01, api.Even, told{0x7fc00000, isInvalid, 0}},
		{half, single, 0x8000, api.Up, told{0x80000000, 0, 0}},
	} {
		if got := tell(To(c.f, c.g, c.bits, c.mode)); got != c.want {
			t.Errorf("To(%v, %v, %#x, mode %d): %v, want %v", c.f, c.g, c.bits, c.mode, got, c.want)
		}
	}
}

func TestExamplesOfInt(t *testing.T) {
	for _, c := range []struct {
		f     api.Form
		bits  uint64
		width int
		mode  uint8
		want  toldInt
	}{
		{double, math.Float64bits(2.5), 8, api.Even, toldInt{2, inexact, 0}},
		{double, math.Float64bits(-128.5), 8, api.Even, toldInt{-128, inexact, 0}},
		{double, math.Float64bits(-128.5), 8, api.Down, toldInt{-128, isInvalid, 0}},
		{double, math.Float64bits(127.5), 8, api.Even, toldInt{127, isInvalid, 0}},
		{half, 0xfc00, 64, api.Up, toldInt{-9223372036854775808, isInvalid, 0}},
		{half, 0x7e00, 16, api.Up, toldInt{0, isInvalid, 0}},
		{half, 0x8000, 16, api.Down, toldInt{0, 0, 0}},
		{half, 0, 24, api.Up, toldInt{0, 0, api.ErrWidth}},
	} {
		if got := tellInt(Int(c.f, c.bits, c.width, c.mode)); got != c.want {
			t.Errorf("Int(%v, %#x, %d, mode %d): %v, want %v", c.f, c.bits, c.width, c.mode, got, c.want)
		}
	}
}

func TestExamplesOfFromInt(t *testing.T) {
	for _, c := range []struct {
		f    api.Form
		n    int64
		mode uint8
		want told
	}{
		{half, 2049, api.Even, told{0x6800, inexact, 0}},
		{half, 65535, api.Zero, told{0x7bff, inexact, 0}},
		{half, -65535, api.Down, told{0xfc00, overflow, 0}},
		{single, math.MaxInt64, api.Even, told{0x5f000000, inexact, 0}},
	} {
		if got := tell(FromInt(c.f, c.n, c.mode)); got != c.want {
			t.Errorf("FromInt(%v, %d, mode %d): %v, want %v", c.f, c.n, c.mode, got, c.want)
		}
	}
}

func TestExamplesOfNativeFloats(t *testing.T) {
	if f := Form(float32(1)); f != single {
		t.Error("Form(float32(1)):", f)
	}
	if bits := Bits(math.Copysign(0, -1)); bits != 0x8000000000000000 {
		t.Errorf("Bits of minus nought: %#x", bits)
	}
	if bits := Bits(float32(math.NaN())); bits != 0x7fc00000 {
		t.Errorf("Bits of a NaN of float32: %#x", bits)
	}
	if v, e := From[float64](half, 0x3c00); v != 1 || e != api.OK {
		t.Error("From[float64](Half, 3c00):", v, int(e))
	}
	if v, e := From[float32](double, 0x3ff0000010000000); v != 1 || e != api.OK {
		t.Error("From[float32](Double, 3ff0000010000000):", v, int(e))
	}
	if v, e := From[float32](double, 0x3ff0000030000000); v != 1+2*0x1p-23 || e != api.OK {
		t.Error("From[float32](Double, 3ff0000030000000):", v, int(e))
	}
	if Same(0, math.Copysign(0, -1)) || !Same(math.NaN(), math.NaN()) || !Same(1.0, 1.0) {
		t.Error("Same(0, -0), Same(NaN, NaN), Same(1, 1)")
	}
	if v := Narrow(1e39); v != float32(math.Inf(1)) {
		t.Error("Narrow(1e39):", v)
	}
	if v := Narrow(-1e-46); v != 0 || !math.Signbit(float64(v)) {
		t.Error("Narrow(-1e-46):", v)
	}
	if v := Widen(0.1); v != 0.10000000149011612 {
		t.Error("Widen(0.1f):", v)
	}
}

func TestExamplesOfCutAndNear(t *testing.T) {
	for _, c := range []struct {
		v   float64
		n   int8
		has bool
	}{{127.9, 127, true}, {128, 0, false}, {-128.9, -128, true}, {-129, 0, false}, {math.NaN(), 0, false}} {
		if n, has := Cut[float64, int8](c.v); n != c.n || has != c.has {
			t.Errorf("Cut[float64, int8](%v): %d, %v", c.v, n, has)
		}
	}
	if n, has := Cut[float64, uint8](-0.9); n != 0 || !has {
		t.Error("Cut[float64, uint8](-0.9):", n, has)
	}
	if n, has := Cut[float64, uint64](18446744073709551616); n != 0 || has {
		t.Error("Cut[.., uint64](2^64):", n, has)
	}
	if v := Near[float32, uint64](math.MaxUint64); v != 18446744073709551616 {
		t.Error("Near[float32, uint64](2^64 - 1):", v)
	}
	if v := Near[float64, int64](1<<53 + 1); v != 9007199254740992 {
		t.Error("Near[float64, int64](2^53 + 1):", v)
	}
}
