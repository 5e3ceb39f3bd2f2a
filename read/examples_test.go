package read

import (
	"testing"

	"numeral/api"
)

// Every row of the chapter's Examples.

func TestExamplesOfBits(t *testing.T) {
	for _, c := range []struct {
		f    api.Form
		s    string
		mode uint8
		want told
	}{
		{double, "0.1", api.Even, told{0x3fb999999999999a, inexact}},
		{double, "0.1", api.Down, told{0x3fb9999999999999, inexact}},
		{half, "65519.99", api.Even, told{0x7bff, inexact}},
		{half, "65520", api.Even, told{0x7c00, overflow}},
		{half, "65520", api.Zero, told{0x7bff, inexact}},
		{half, "65536", api.Zero, told{0x7bff, overflow}},
		{double, "-0", api.Up, told{0x8000000000000000, 0}},
		{double, "2.4703282292062327208e-324", api.Even, told{0, underflow}},
		{double, "2.4703282292062327209e-324", api.Even, told{1, underflow}},
		{double, "-1e-999999999999", api.Down, told{0x8000000000000001, underflow}},
		{half, "nan(7)", api.Even, told{0x7e07, 0}},
		{half, "-inf", api.Zero, told{0xfc00, 0}},
		{half, "0x1.8p3", api.Even, told{0x4a00, 0}},
	} {
		bitsAre(t, c.f, c.s, c.mode, c.want)
	}
	bitsRefuse(t, half, "nan(512)", api.Even, api.ErrPayload, 0)
	bitsRefuse(t, form(1, 5), "x", 9, api.ErrForm, 0)
	bitsRefuse(t, half, "x", 9, api.ErrMode, 0)
	bitsRefuse(t, half, "1x", api.Even, api.ErrTail, 1)
}

func TestExamplesOfNativeFloats(t *testing.T) {
	for s, want := range map[string]float64{"1e23": 1e23, "9007199254740993": 9007199254740992} {
		if x, err := Double(s); x != want || err != nil {
			t.Errorf("Double(%s): %v, %v", s, x, err)
		}
	}
	if x, err := Single("16777217"); x != 16777216 || err != nil {
		t.Errorf("Single(16777217): %v, %v", x, err)
	}
	if x, err := Double("nan"); x == x || err != nil {
		t.Errorf("Double(nan): %v, %v", x, err)
	}
}

func TestExamplesOfWay(t *testing.T) {
	for _, c := range []struct {
		f    api.Form
		s    string
		want int
	}{{double, "0.1", 1}, {half, "0.1", 2}, {double, "9007199254740993", 2}, {double, "9007199254740993.0000000000000000001", 3}, {double, "0x1p3", 4}, {single, "-inf", 5}} {
		wayIs(t, c.f, c.s, c.want)
	}
}

func TestExamplesOfExact(t *testing.T) {
	for _, c := range []struct {
		f    api.Form
		s    string
		want bool
	}{{double, "0.1", false}, {double, "0.5", true}, {half, "2049", false}, {half, "inf", true}, {half, "nan", false}} {
		exactIs(t, c.f, c.s, c.want)
	}
}
