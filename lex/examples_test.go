package lex

import (
	"testing"

	"numeral/api"
	"numeral/nat"
)

// Every row of the chapter's Examples.

func decNum(neg bool, digits string, exp int) api.Number {
	return api.Number{Kind: api.NumDec, Neg: neg, Dec: api.Dec{Neg: neg, Digits: digits, Exp: exp}}
}

func hexNum(neg bool, mant uint64, exp int) api.Number {
	return api.Number{Kind: api.NumHex, Neg: neg, Hex: api.Dyadic{Neg: neg && mant > 0, Mant: nat.Of(mant), Exp: exp}}
}

func inf(neg bool) api.Number { return api.Number{Kind: api.NumInf, Neg: neg} }

func nan(neg bool, payload uint64) api.Number {
	return api.Number{Kind: api.NumNaN, Neg: neg, Payload: payload}
}

func TestExamplesOfWhatTextsSay(t *testing.T) {
	for s, want := range map[string]api.Number{
		"12.50e3": decNum(false, "125", 2), "-0.0": decNum(true, "", 0), "+.5": decNum(false, "5", -1), "1.": decNum(false, "1", 0), "007": decNum(false, "7", 0),
		"1_0.2_5e-1_0": decNum(false, "1025", -12), "\u22123": decNum(true, "3", 0), "1\u0665": decNum(false, "15", 0),
		"1e99999999999999999999": decNum(false, "1", far), "-1e-99999999999999999999": decNum(true, "1", -far), "0e99999999999999999999": decNum(false, "", 0),
		"0x1.8p3": hexNum(false, 3, 2), "-0x.0p5": hexNum(true, 0, 0), "0XaB": hexNum(false, 171, 0), "0x1.00p-2": hexNum(false, 1, -2),
		"inf": inf(false), "-Infinity": inf(true), "NaN": nan(false, 0), "nan(7)": nan(false, 7), "-nan(007)": nan(true, 7),
	} {
		readAs(t, s, answer{n: want})
	}
}

func TestExamplesOfErrors(t *testing.T) {
	for _, c := range []struct {
		code  api.Errno
		texts map[string]int
	}{
		{api.ErrNumber, map[string]int{"": 0, "-": 1, "+-1": 1, "x": 0, "e5": 0, " 1": 0}},
		{api.ErrDigits, map[string]int{".": 1, "-.e5": 2, "1e": 2, "1e+": 3, "1ex": 2, "0x": 2, "0x.p1": 3, "0x1p": 4, "nan(": 4, "nan()": 4}},
		{api.ErrUnder, map[string]int{"_1": 0, "1__0": 1, "1_": 1, "1_.5": 1, "1._5": 2, "1e_5": 2, "0x_1": 2, "0xa_": 3}},
		{api.ErrTail, map[string]int{"1x": 1, "1.5.": 3, "1e5.5": 3, "infinit": 3, "nan(7": 5, "nan7": 3, "0x1g": 3, "1 ": 1}},
		{api.ErrUTF, map[string]int{"\xff": 0, "1\xff": 1, "1e\xff": 2, "-\xc3\x28": 1}},
		{api.ErrPayload, map[string]int{"nan(2251799813685248)": 4}},
	} {
		for s, at := range c.texts {
			readAs(t, s, answer{code: c.code, at: at})
		}
	}
}

func TestExamplesOfBegin(t *testing.T) {
	for s, want := range map[string]struct {
		n    api.Number
		size int
	}{
		"12ab": {decNum(false, "12", 0), 2}, "1e+x": {decNum(false, "1", 0), 1}, "0x": {decNum(false, "", 0), 1}, "infinit": {inf(false), 3},
		"nan(1": {nan(false, 0), 3}, "-": {}, "1_": {decNum(false, "1", 0), 1},
	} {
		beginsWith(t, s, want.n, want.size)
	}
}

func TestExamplesOfTextDigitAndCheck(t *testing.T) {
	for s, want := range map[string]string{"12.50e3": "125e2", "-0x.0p5": "-0x0p0", "0x1.8p3": "0x1.8p3", "0xab": "0x1.56p7", "-nan(007)": "-nan(7)"} {
		if got := mustText(t, mustRead(t, s)); got != want {
			t.Errorf("Text of %s: %s; want %s", s, got, want)
		}
	}
	for _, c := range []struct {
		r  rune
		d  int
		ok bool
	}{{'7', 7, true}, {0x1d7cf, 1, true}, {'x', 0, false}, {-1, 0, false}} {
		if d, ok := Digit(c.r); d != c.d || ok != c.ok {
			t.Errorf("Digit(%d): %d, %v", c.r, d, ok)
		}
	}
	for i, n := range []api.Number{{}, {Kind: api.NumInf, Payload: 1}, {Kind: api.NumDec, Dec: api.Dec{Neg: true, Digits: "1"}}, {Kind: api.NumDec, Neg: true, Dec: api.Dec{Digits: "1"}}} {
		if e := Check(n); e != api.ErrNumber {
			t.Errorf("Check of number %d: %d", i, int(e))
		}
	}
}
