package read

import (
	"testing"

	"numeral/api"
)

func exactIs(t *testing.T, f api.Form, s string, want bool) {
	t.Helper()
	if exact, err := Exact(f, s); exact != want || err != nil {
		t.Errorf("Exact(%v, %s): %v, %v; want %v", f, shortened(s), exact, err, want)
	}
}

func TestP165WrittenOut(t *testing.T) {
	greatest := numberOf(worthOf(double, infinite(double)-1), false).text()
	for _, c := range []struct {
		f     api.Form
		exact []string
		not   []string
	}{
		{double,
			[]string{"0", "-0", "0e999999999999", "1", "-1.5", "0.5", "0.375", "9007199254740992", "9007199254740994", "1e22", greatest, "2251799813685249.5", "-0.0009765625", "0x1p-1074", "-0x1.8", "inf", "-Infinity"},
			[]string{"0.1", "-0.3", "9007199254740993", "1e23", "1e-1", "2251799813685249.25", "4503599627370497.5", "1e400", "-1e400", "1e-400", "5e-324", "4.9e-324", "0x1p-1075", "0x1.00000000000001", "0x1p1024", "1e999999999999", "-1e-999999999999", "nan", "-nan(7)", "1.00000000000000000000000000001"}},
		{half,
			[]string{"0", "2048", "2050", "-65504", "0.000000059604644775390625", "0.00006103515625", "1.5", "0x1p-24", "0x1.ffcp15", "inf"},
			[]string{"2049", "65505", "65520", "-65536", "0.0000000298023223876953125", "0.1", "0x1p-25", "0x1.002", "0x1p16", "nan", "nan(511)"}},
		{single, []string{"16777216", "0.5", "-1e10", "123456", "16777218"}, []string{"16777217", "0.1", "1e11", "123456.7"}},
		{least, []string{"0", "0.5", "1", "-1.5", "2", "3"}, []string{"0.25", "2.5", "4", "-3.5", "1e-9", "nan(0)"}},
	} {
		for _, s := range c.exact {
			exactIs(t, c.f, s, true)
		}
		for _, s := range c.not {
			exactIs(t, c.f, s, false)
		}
	}
}

// What is just a float's worth is exact, and nothing beside it.
func TestP165FloatsAndBeside(t *testing.T) {
	r := source(30)
	for _, f := range someForms() {
		for range 60 {
			n := numberOf(worthOf(f, r.Uint64N(infinite(f))), r.IntN(2) == 0)
			exactIs(t, f, n.text(), true)
			for _, m := range n.beside(r.IntN(300)) {
				exactIs(t, f, m.someText(r), m.owed(f, api.Even).flags == 0)
			}
		}
	}
}

func TestP165IsTheFlag(t *testing.T) {
	r := source(31)
	for _, f := range someForms() {
		for range 1000 {
			n := someNumber(r, f)
			exactIs(t, f, n.someText(r), n.owed(f, api.Even).flags&inexact == 0)
			n = number{r.IntN(2) == 0, someDigits(r, 1+r.IntN(4)), r.IntN(8) - 4}
			exactIs(t, f, n.someText(r), n.owed(f, api.Even).flags&inexact == 0)
		}
	}
}
