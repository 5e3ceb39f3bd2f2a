package read

import (
	"testing"

	"numeral/api"
	"numeral/forms"
	"numeral/lex"
	"numeral/quick"
	"numeral/wide"
)

func wayIs(t *testing.T, f api.Form, s string, want int) {
	t.Helper()
	if way, err := Way(f, s); way != want || err != nil {
		t.Errorf("Way(%v, %s): %d, %v; want %d", f, shortened(s), way, err, want)
	}
}

// Quick are, in Double and Single alone, numbers up to 2^53 (2^24) with powers of ten up to 22 (10), and a little beyond.
func TestP164Quick(t *testing.T) {
	for _, s := range []string{"0", "-0", "0.00e999999999999", "1", "-1.5", "0.1", "9007199254740992", "9007199254740992e22", "9007199254740991e-22", "1e22", "1e37", "-9e37", "0.0000000000000000000001", "\u0661.\u0665", "900_719_925_474_099_1", "+12.50e3"} {
		wayIs(t, double, s, 1)
	}
	for _, s := range []string{"0", "-0e5", "1", "0.1", "-16777216", "16777215e-10", "16777216e10", "1e10", "1e17", "1.5e-9"} {
		wayIs(t, single, s, 1)
	}
	// The same decimals are not quick in other forms.
	for _, f := range []api.Form{half, brain, least, form(11, 51), form(10, 52), form(8, 22), form(7, 23)} {
		for _, s := range []string{"1", "0.1", "-0", "3e5", "1e-9"} {
			wayIs(t, f, s, 2)
		}
	}
}

// Each form has its own bounds: what is quick in Double may not be in Single.
func TestP164BeyondQuick(t *testing.T) {
	for _, s := range []string{"9007199254740993", "1e38", "1e-23", "2e-50", "91e36", "9007199254740993e-5", "1e300", "-1e-300", "5e-324"} {
		wayIs(t, double, s, 2)
	}
	for _, s := range []string{"16777217", "1e18", "2e17", "1e-11", "16777217e-5", "9007199254740992", "1e22", "-3.4e38", "1e-45"} {
		wayIs(t, single, s, 2)
	}
}

// Only the whole numbers can tell what the digits behind the 19th say, what lies at a float's middle behind the point, and what is beyond the powers of ten that are kept.
func TestP164ByWholeNumbers(t *testing.T) {
	for _, s := range []string{"9007199254740993.0000000000000000001", "9007199254740992.9999999999999999999", "1e-401", "1e401", "-1e-500", "1e999999999999", "1e-999999999999", "1.00000000000000011102230246251565404236316680908203125", again("7", 65000) + "e-999999"} {
		wayIs(t, double, s, 3)
	}
	for _, s := range []string{"1.00048828125", "0.000000029802322387695312500", "-1.00146484375", "1e401", "1e-401", "2049.0000000000000000000000001"} {
		wayIs(t, half, s, 3)
	}
	for _, s := range []string{"16777217.00000000000000000000001", "1.000000059604644775390625", "1e450"} {
		wayIs(t, single, s, 3)
	}
	wayIs(t, double, "1e400", 2)
	wayIs(t, double, "1e-400", 2)
}

func TestP164Sixteens(t *testing.T) {
	for _, f := range someForms() {
		for _, s := range []string{"0x1p3", "-0x0", "0X.8", "0x1.8p-99999999999", "+0xfFp99999999999", "0x1.123456789abcdef"} {
			wayIs(t, f, s, 4)
		}
	}
}

// A payload counts for nothing here, however great it is.
func TestP164Names(t *testing.T) {
	for _, f := range someForms() {
		for _, s := range []string{"inf", "-inf", "+Infinity", "nan", "-NaN", "nan(0)", "nan(1)", "nan(512)", "-nan(2251799813685247)"} {
			wayIs(t, f, s, 5)
		}
	}
}

// wayOf is what the chapter says.
func wayOf(t *testing.T, f api.Form, n api.Number) int {
	t.Helper()
	switch n.Kind {
	case api.NumInf, api.NumNaN:
		return 5
	case api.NumHex:
		return 4
	}
	if _, ok := quick.Double(n.Dec); ok && f == forms.Double() {
		return 1
	}
	if _, ok := quick.Single(n.Dec); ok && f == forms.Single() {
		return 1
	}
	_, ok, e := wide.Bits(f, n.Dec)
	if e != api.OK {
		t.Fatal(show(n), int(e))
	}
	if ok {
		return 2
	}
	return 3
}

func TestP164AsTheChapterSays(t *testing.T) {
	r := source(20)
	seen := map[api.Form]map[int]int{}
	check := func(f api.Form, s string) {
		n, err := lex.Read(s)
		if err != nil {
			t.Fatal(shortened(s), err)
		}
		want := wayOf(t, f, n)
		wayIs(t, f, s, want)
		if seen[f] == nil {
			seen[f] = map[int]int{}
		}
		seen[f][want]++
	}
	for _, f := range someForms() {
		for range 1500 {
			check(f, someNumber(r, f).someText(r))
			n := number{digits: someDigits(r, 1+r.IntN(8)), exp: r.IntN(50) - 25}
			check(f, n.someText(r))
			for _, m := range numberOf(middleOf(f, r.Uint64N(infinite(f))), r.IntN(2) == 0).beside(1 + r.IntN(20)) {
				check(f, m.someText(r))
			}
		}
	}
	for f, ways := range seen {
		if ways[2] < 100 || ways[3] < 100 || (f == double || f == single) != (ways[1] > 100) {
			t.Errorf("%v: the ways were seen so often: %v", f, ways)
		}
	}
}
