package soft

import (
	"testing"

	"numeral/api"
)

// Every row of the chapter's Examples.

func TestExamplesOfTwo(t *testing.T) {
	for _, c := range []struct {
		what string
		call twoCall
		a, b uint64
		mode uint8
		want told
	}{
		{"Add", Add, 0x3c00, 0x4000, api.Even, told{0x4200, 0, 0}},
		{"Add", Add, 0x3c00, 0xbc00, api.Even, told{0, 0, 0}},
		{"Add", Add, 0x3c00, 0xbc00, api.Down, told{0x8000, 0, 0}},
		{"Add", Add, 0x8000, 0x8000, api.Up, told{0x8000, 0, 0}},
		{"Add", Add, 0x7c00, 0xfc00, api.Even, told{0x7e00, isInvalid, 0}},
		{"Add", Add, 0x7d00, 0x3c00, api.Even, told{0x7e00, isInvalid, 0}},
		{"Add", Add, 0x7e00, 0x3c00, api.Even, told{0x7e00, 0, 0}},
		{"Add", Add, 0x7bff, 0x7bff, api.Even, told{0x7c00, overflow, 0}},
		{"Add", Add, 0x7bff, 0x7bff, api.Zero, told{0x7bff, overflow, 0}},
		{"Add", Add, 0x7bff, 0x0001, api.Up, told{0x7c00, overflow, 0}},
		{"Mul", Mul, 0x0001, 0x3800, api.Even, told{0, underflow, 0}},
		{"Mul", Mul, 0x0001, 0x3800, api.Up, told{0x0001, underflow, 0}},
		{"Mul", Mul, 0x0001, 0xb800, api.Even, told{0x8000, underflow, 0}},
		{"Div", Div, 0x3c00, 0x4200, api.Even, told{0x3555, inexact, 0}},
		{"Div", Div, 0x3c00, 0x4200, api.Up, told{0x3556, inexact, 0}},
		{"Div", Div, 0xbc00, 0, api.Even, told{0xfc00, divide, 0}},
		{"Div", Div, 0, 0, api.Even, told{0x7e00, isInvalid, 0}},
		{"Div", Div, 0x3c00, 0xfc00, api.Even, told{0x8000, 0, 0}},
	} {
		wants(t, tell(c.call(half, c.a, c.b, c.mode)), c.want, c.what, half, c.mode, c.a, c.b)
	}
}

func TestExamplesOfOne(t *testing.T) {
	widest := form(2, 52)
	for _, c := range []struct {
		what string
		call oneCall
		f    api.Form
		a    uint64
		mode uint8
		want told
	}{
		{"Sqrt", Sqrt, half, 0x4000, api.Even, told{0x3da8, inexact, 0}},
		{"Sqrt", Sqrt, half, 0x4000, api.Up, told{0x3da9, inexact, 0}},
		{"Sqrt", Sqrt, half, 0x8000, api.Even, told{0x8000, 0, 0}},
		{"Sqrt", Sqrt, half, 0xbc00, api.Even, told{0x7e00, isInvalid, 0}},
		{"Sqrt", Sqrt, half, 0x4400, api.Down, told{0x4000, 0, 0}},
		{"Whole", Whole, half, 0x3e00, api.Even, told{0x4000, inexact, 0}},
		{"Whole", Whole, half, 0x4100, api.Even, told{0x4000, inexact, 0}},
		{"Whole", Whole, half, 0x4100, api.Away, told{0x4200, inexact, 0}},
		{"Whole", Whole, half, 0xb800, api.Even, told{0x8000, inexact, 0}},
		{"Whole", Whole, half, 0xb800, api.Down, told{0xbc00, inexact, 0}},
		{"Whole", Whole, widest, greatest(widest), api.Even, told{infinity(widest), overflow, 0}},
	} {
		wants(t, tell(c.call(c.f, c.a, c.mode)), c.want, c.what, c.f, c.mode, c.a)
	}
}

func TestExamplesOfFma(t *testing.T) {
	wants(t, tell(Fma(half, 0x3c01, 0x3c01, 0xbc02, api.Even)), told{0x0010, 0, 0}, "Fma", half, api.Even, 0x3c01, 0x3c01, 0xbc02)
	wants(t, tell(Fma(half, 0, 0x7c00, 0x7e00, api.Even)), told{0x7e00, 0, 0}, "Fma", half, api.Even, 0, 0x7c00, 0x7e00)
	wants(t, tell(Fma(half, 0x8000, 0x3c00, 0x8000, api.Even)), told{0x8000, 0, 0}, "Fma", half, api.Even, 0x8000, 0x3c00, 0x8000)
}

func TestExamplesOfSigns(t *testing.T) {
	wantsBits(t, tellBits(Neg(half, 0x7d00)), 0xfd00, "Neg", half, 0x7d00)
	wantsBits(t, tellBits(Abs(half, 0xfd00)), 0x7d00, "Abs", half, 0xfd00)
	wantsBits(t, tellBits(Min(half, 0, 0x8000)), 0x8000, "Min", half, 0, 0x8000)
	wantsBits(t, tellBits(Max(half, 0, 0x8000)), 0, "Max", half, 0, 0x8000)
	wantsBits(t, tellBits(Min(half, 0x7d00, 0)), 0x7e00, "Min", half, 0x7d00, 0)
}
