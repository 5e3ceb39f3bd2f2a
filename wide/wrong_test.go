package wide

import (
	"math"
	"strings"
	"testing"

	"numeral/api"
	"numeral/dec"
)

func wrongForms() []api.Form {
	return []api.Form{{}, form(1, 5), form(12, 5), form(5, 0), form(5, 53), form(0, 10), form(-5, 10), form(5, -10), form(1, 0), form(12, 53), form(11, 53), form(12, 52), form(math.MaxInt, 1), form(2, math.MaxInt), form(math.MinInt, math.MinInt), form(64, 64), form(5+1<<32, 10)}
}

// mayNotBe are decimals that dec.Check refuses, each with its error.
func mayNotBe() map[api.Errno][]api.Dec {
	wrong := []api.Dec{
		dc("0", 0), dc("00", 0), dc("01", 0), dc("10", 0), dc("010", 0), dc("120", -1), dc("12345678901234567890", 0), dc("0123456789012345678901", 0),
		dc("", 1), dc("", -1), dc("", 400), dc("", 401), dc("", -401), dc("", api.MaxExp), dc("", math.MaxInt), dc("", math.MinInt),
		dc("1", api.MaxExp+1), dc("1", -api.MaxExp-1), dc("1", math.MaxInt), dc("1", math.MinInt), dc("1", 1<<32), dc("1", 1<<40+22), dc(strings.Repeat("1", 30), math.MaxInt), dc(strings.Repeat("1", api.MaxText), math.MaxInt), dc(strings.Repeat("1", api.MaxText), math.MinInt),
		dc("+1", 0), {Digits: "-1"}, {Digits: "-"}, dc("1.5", 0), dc("1e5", 0), dc("1_1", 0), dc("1 2", 0), dc(" 12", 0), dc("0x1", 0), dc("inf", 0), dc("nan", 0), dc("x", 0), dc("1x", 0), dc("1\x002", 0), dc("\xff", 0), dc("\u0665", 0),
		dc("1234567890123456789x1", 0), dc("123456789012345678901234567890x1", 0), dc("123456789x1234567891", 0), dc("1234567890123456789:", 0), dc("/1", 0), dc(strings.Repeat("1", api.MaxText-1)+"0", 0), dc(strings.Repeat("1", api.MaxText-1)+"x", 0),
	}
	long := []api.Dec{
		dc(strings.Repeat("1", api.MaxText+1), 0), dc(strings.Repeat("1", api.MaxText+1), -api.MaxText), dc(strings.Repeat("0", api.MaxText+1), 0), dc(strings.Repeat("x", api.MaxText+1), 0), dc("1"+strings.Repeat("0", api.MaxText), 0), dc(strings.Repeat("1", 2*api.MaxText), math.MaxInt),
	}
	return map[api.Errno][]api.Dec{api.ErrDec: wrong, api.ErrMany: long}
}

func TestP151P152FormsThatMayNotBe(t *testing.T) {
	for _, f := range wrongForms() {
		for _, d := range []api.Dec{{}, {Neg: true}, dc("1", 0), dc("-15", -1), dc("1", 401), dc("1", -401), dc("12345678901234567890123", 5)} {
			refused(t, f, d, api.ErrForm)
		}
		// The form comes ahead of the decimal.
		for _, all := range mayNotBe() {
			for _, d := range all {
				refused(t, f, d, api.ErrForm)
			}
		}
	}
}

func TestP151P152DecimalsThatMayNotBe(t *testing.T) {
	for want, all := range mayNotBe() {
		for _, d := range all {
			for _, d := range []api.Dec{d, turned(d)} {
				if e := dec.Check(d); e != want {
					t.Errorf("dec.Check(%s): error %d", short(d), int(e))
				}
				for _, f := range someForms() {
					refused(t, f, d, want)
				}
			}
		}
	}
}
