package quick

import (
	"math"
	"testing"

	"numeral/api"
)

// Every row of the chapter's Examples.

func doubleIs(t *testing.T, d api.Dec, want float64, ok bool) {
	t.Helper()
	if x, is := Double(d); math.Float64bits(x) != math.Float64bits(want) || is != ok {
		t.Errorf("Double(%s): %v, %v; want %v, %v", text(d), x, is, want, ok)
	}
}

func singleIs(t *testing.T, d api.Dec, want float32, ok bool) {
	t.Helper()
	if x, is := Single(d); math.Float32bits(x) != math.Float32bits(want) || is != ok {
		t.Errorf("Single(%s): %v, %v; want %v, %v", text(d), x, is, want, ok)
	}
}

func wholeIs(t *testing.T, s string, want float64, ok bool) {
	t.Helper()
	if x, is := Whole(s); math.Float64bits(x) != math.Float64bits(want) || is != ok {
		t.Errorf("Whole(%q): %v, %v; want %v, %v", s, x, is, want, ok)
	}
}

func TestExamplesOfDouble(t *testing.T) {
	doubleIs(t, dc("1", 22), 1e22, true)
	doubleIs(t, dc("1", 23), 1e23, true)
	doubleIs(t, dc("123", -22), 1.23e-20, true)
	doubleIs(t, dc("1", -23), 0, false)

	doubleIs(t, dc("9007199254740992", 22), 9007199254740992e22, true)
	doubleIs(t, dc("9007199254740993", 0), 0, false)
	doubleIs(t, dc("9007199254740992", 23), 0, false)

	doubleIs(t, dc("9", 37), 9e37, true)
	doubleIs(t, dc("10", 37), 0, false)
	doubleIs(t, dc("91", 36), 0, false)
	doubleIs(t, dc("89", 36), 8.9e37, true)
	doubleIs(t, dc("1", 38), 0, false)

	doubleIs(t, api.Dec{}, 0, true)
	doubleIs(t, api.Dec{Neg: true}, math.Copysign(0, -1), true)
	doubleIs(t, dc("-1", 0), -1, true)
}

func TestExamplesOfSingle(t *testing.T) {
	singleIs(t, dc("16777216", 10), 16777216e10, true)
	singleIs(t, dc("16777217", 0), 0, false)
	singleIs(t, dc("1", -10), 1e-10, true)
	singleIs(t, dc("1", 17), 1e17, true)
	singleIs(t, dc("2", 17), 0, false)
	singleIs(t, dc("1", 18), 0, false)
}

func TestExamplesOfFits(t *testing.T) {
	for _, c := range []struct {
		d    api.Dec
		want bool
	}{{dc("1", 37), true}, {dc("01", 0), false}, {dc("1", -22), true}} {
		if fits := Fits(c.d); fits != c.want {
			t.Errorf("Fits(%s): %v", text(c.d), fits)
		}
	}
}

func TestExamplesOfWhole(t *testing.T) {
	wholeIs(t, "0", 0, true)
	wholeIs(t, "9007199254740993", 9007199254740992, true)
	wholeIs(t, "9999999999999999999", 1e19, true)
	wholeIs(t, "00000000000000000001", 0, false)
	wholeIs(t, "", 0, false)
	wholeIs(t, "-1", 0, false)
}
