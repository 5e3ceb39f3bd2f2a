package quick

import (
	"math"
	"strings"
	"testing"

	"numeral/api"
	"numeral/dec"
)

// mayNotBe are decimals that dec.Check refuses.
func mayNotBe() []api.Dec {
	all := []api.Dec{
		dc("0", 0), dc("00", 0), dc("0000000000000000000", 0), dc("01", 0), dc("10", 0), dc("010", 0), dc("120", -1), dc("0012", 3), dc("10", 37), dc("90", 36), dc("16777210", 0),
		dc("", 1), dc("", -1), dc("", 22), dc("", 23), dc("", api.MaxExp), dc("", math.MaxInt), dc("", math.MinInt),
		dc("1", api.MaxExp+1), dc("1", -api.MaxExp-1), dc("1", math.MaxInt), dc("1", math.MinInt), dc("1", math.MinInt+1), dc("1", math.MaxInt-9),
		dc("1", 1<<32), dc("1", -1<<32), dc("1", 1<<32+5), dc("1", 5-1<<32), dc("1", 1<<40+22), dc("1", 1<<62), dc("1", -1<<62),
		dc("+1", 0), {Digits: "-1"}, {Digits: "--1"}, {Digits: "-"}, dc("1.5", 0), dc(".5", 0), dc("5.", 0), dc("1e5", 0), dc("1_0", 0), dc("1 2", 0), dc(" 12", 0), dc("12 ", 0),
		dc("0x1", 0), dc("inf", 0), dc("nan", 0), dc("1\x002", 0), dc("\x00", 0), dc("\xff", 0), dc("1\n", 0), dc("\u0665", 0), dc("1\u06652", 0), dc("\uff15", 0),
		dc(strings.Repeat("1", api.MaxText+1), 0), dc(strings.Repeat("1", 2*api.MaxText), -api.MaxText), dc("1"+strings.Repeat("0", api.MaxText), 0), dc(strings.Repeat("0", api.MaxText+1), 0), dc(strings.Repeat("0", api.MaxText)+"1", 0),
	}
	for c := range 256 {
		if c < '0' || c > '9' {
			b := string([]byte{byte(c)})
			all = append(all, api.Dec{Digits: b}, api.Dec{Digits: b + "1"}, api.Dec{Digits: "1" + b}, api.Dec{Digits: "1" + b + "2", Exp: -3}, api.Dec{Digits: "12345" + b + "7", Exp: 2}, api.Dec{Digits: "12" + b + "3456789012345678"})
		}
	}
	return all
}

// What may not be is not quick, and is answered with 0 without a minus.
func TestP141P142P143DecimalsThatMayNotBe(t *testing.T) {
	for _, d := range mayNotBe() {
		for _, d := range []api.Dec{d, turned(d)} {
			if dec.Check(d) == api.OK {
				t.Errorf("%q e %d may be", d.Digits, d.Exp)
			}
			doubleIs(t, d, 0, false)
			singleIs(t, d, 0, false)
			if Fits(d) {
				t.Errorf("Fits(%q e %d)", d.Digits, d.Exp)
			}
		}
	}
}

func TestP144TextsThatAreNoWholeNumber(t *testing.T) {
	for _, s := range []string{"", "-1", "+1", "-0", "+0", "-", "+", " ", " 1", "1 ", "1.", ".1", "1.0", "1e5", "1E5", "1_000", "1,000", "0x1", "0b1", "inf", "nan", "a", "12a", "a12", "1\x00", "\x001", "1\n", "\xff", "\u0665", "1\u0665", "\uff15", "-9007199254740993", "1\xb2"} {
		wholeIs(t, s, 0, false)
	}
	for c := range 256 {
		if c >= '0' && c <= '9' {
			continue
		}
		b := string([]byte{byte(c)})
		for size := 1; size <= 19; size++ {
			for at := range size {
				wholeIs(t, strings.Repeat("7", at)+b+strings.Repeat("3", size-at-1), 0, false)
			}
		}
	}
}

func TestP144TextsThatAreTooLong(t *testing.T) {
	for _, s := range []string{"00000000000000000000", "00000000000000000001", "10000000000000000000", "18446744073709551615", "18446744073709551616", "18446744073709551617", "99999999999999999999", "36893488147419103233"} {
		if len(s) != 20 {
			t.Fatalf("%s has %d bytes", s, len(s))
		}
		wholeIs(t, s, 0, false)
		for _, more := range []int{1, 2, 12, 44, 236, 1000, api.MaxText, 1 << 20} {
			wholeIs(t, s+strings.Repeat("0", more), 0, false)
			wholeIs(t, strings.Repeat("0", more)+s, 0, false)
		}
	}
}
