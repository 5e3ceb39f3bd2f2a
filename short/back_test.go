package short

import (
	"math"
	"math/big"
	"strings"
	"testing"

	"numeral/api"
)

// isBack is whether a decimal is read back as a float, as the document's first page has it.
func isBack(f api.Form, d api.Dec, bits uint64, mode uint8) bool {
	switch rest := bits % minus(f); {
	case rest >= infinite(f):
		return false
	case d.Digits == "":
		return rest == 0 && d.Neg == (bits >= minus(f))
	case rest == 0:
		return d.Neg == (bits >= minus(f)) && toNought(f, ratOf(d), mode)
	}
	return reachOf(f, bits, mode).has(ratOf(d))
}

// toNought is whether a number that is not nought rounds to one.
func toNought(f api.Form, x *big.Rat, mode uint8) bool {
	abs, first := new(big.Rat).Abs(x), worthOf(f, 1)
	switch {
	case mode == api.Even:
		return abs.Cmp(halfway(first, new(big.Rat))) <= 0
	case mode == api.Away:
		return abs.Cmp(halfway(first, new(big.Rat))) < 0
	case mode == api.Zero, mode == api.Up && x.Sign() < 0, mode == api.Down && x.Sign() > 0:
		return abs.Cmp(first) < 0
	}
	return false
}

// All decimals of one or two digits about the floats of small forms, against all bits that these have.
func TestP182SmallForms(t *testing.T) {
	t.Parallel()
	for _, f := range []api.Form{least, form(2, 2), form(3, 1), form(3, 2)} {
		for m := range 100 {
			for exp := -3; exp <= 2; exp++ {
				for _, neg := range []bool{false, true} {
					d := only(neg, big.NewInt(int64(m)).String(), exp)
					for bits := range 2 * minus(f) {
						for _, mode := range everyMode {
							backIs(t, f, d, bits, mode, isBack(f, d, bits, mode))
						}
					}
				}
			}
		}
	}
}

// ends are the decimals that an interval begins and ends with, and those that lie a little beyond each and a little ahead of it.
func (s span) ends(t *testing.T, little *big.Rat) []api.Dec {
	t.Helper()
	var all []api.Dec
	for _, x := range []*big.Rat{s.low, s.high} {
		for _, y := range []*big.Rat{less(x, little), x, plus(x, little)} {
			d, ok := decimalOf(y)
			if !ok {
				t.Fatalf("no decimal: %s", showRat(y))
			}
			all = append(all, d)
		}
	}
	return all
}

// Decimals just at the ends of a reach, just below and just beyond them.
func TestP182EndsOfReaches(t *testing.T) {
	t.Parallel()
	for _, f := range []api.Form{half, single, double, least, form(4, 3), form(6, 30)} {
		little := times(worthOf(f, 1), tenTo(-9))
		for _, float := range both(f, edges(f)) {
			if float%minus(f) == 0 {
				continue
			}
			for _, mode := range everyMode {
				for _, d := range reachOf(f, float, mode).ends(t, little) {
					for _, bits := range []uint64{float, float - 1, float + 1, float ^ minus(f)} {
						backIs(t, f, d, bits, mode, isBack(f, d, bits, mode))
					}
				}
			}
		}
	}
}

// A half of the least float, and that float itself, are where numbers no longer round to nought.
func TestP182EndsOfNoughts(t *testing.T) {
	for _, f := range someForms() {
		first := worthOf(f, 1)
		little := times(first, tenTo(-9))
		for _, x := range []*big.Rat{first, halfway(first, new(big.Rat))} {
			for _, step := range []*big.Rat{new(big.Rat), little, turnedRat(little)} {
				for _, y := range []*big.Rat{plus(x, step), turnedRat(plus(x, step))} {
					d, _ := decimalOf(y)
					for _, bits := range []uint64{0, minus(f), 1, minus(f) + 1} {
						for _, mode := range everyMode {
							backIs(t, f, d, bits, mode, isBack(f, d, bits, mode))
						}
					}
				}
			}
		}
	}
}

// Each nought is read back as the one of its sign alone.
func TestP182Noughts(t *testing.T) {
	for _, f := range allForms() {
		for _, mode := range everyMode {
			backIs(t, f, dc("", 0), 0, mode, true)
			backIs(t, f, dc("-", 0), minus(f), mode, true)
			backIs(t, f, dc("-", 0), 0, mode, false)
			backIs(t, f, dc("", 0), minus(f), mode, false)
			backIs(t, f, dc("", 0), 1, mode, false)
		}
	}
}

// Beyond the greatest float: what rounds to it by the mode is read back as it, what overflows is not, and never as infinity.
func TestP182Overflows(t *testing.T) {
	for _, c := range []struct {
		f     api.Form
		d     api.Dec
		modes []uint8 // that take it to the greatest float without an overflow
	}{
		{half, dc("65504", 0), everyMode},
		{half, dc("65505", 0), []uint8{api.Even, api.Away, api.Zero, api.Down}},
		{half, dc("65519", 0), []uint8{api.Even, api.Away, api.Zero, api.Down}},
		{half, dc("6551999999999999999999", -17), []uint8{api.Even, api.Away, api.Zero, api.Down}},
		{half, dc("6552", 1), []uint8{api.Zero, api.Down}},
		{half, dc("65535", 0), []uint8{api.Zero, api.Down}},
		{half, dc("655359999999999999999", -16), []uint8{api.Zero, api.Down}},
		{half, dc("65536", 0), nil},
		{half, dc("65537", 0), nil},
		{half, dc("1", 1<<30), nil},
		{double, dc("17976931348623157", 292), []uint8{api.Even, api.Away, api.Up}},
		{double, dc("17976931348623158", 292), []uint8{api.Even, api.Away, api.Zero, api.Down}},
		{double, dc("17976931348623159", 292), []uint8{api.Zero, api.Down}},
		{double, dc("17976931348623160", 292), nil},
	} {
		if c.d.Digits[len(c.d.Digits)-1] == '0' {
			c.d = dc(strings.TrimSuffix(c.d.Digits, "0"), c.d.Exp+1)
		}
		is := [5]bool{}
		for _, mode := range c.modes {
			is[mode] = true
		}
		for _, mode := range everyMode {
			backIs(t, c.f, c.d, infinite(c.f)-1, mode, is[mode])
			backIs(t, c.f, c.d, infinite(c.f), mode, false)
			backIs(t, c.f, turned(c.d), infinite(c.f)-1+minus(c.f), mirrored[mode], is[mode])
			backIs(t, c.f, turned(c.d), infinite(c.f)+minus(c.f), mirrored[mode], false)
		}
	}
}

// Exponents far away: beyond every float, or nearer to nought than every float.
func TestP182FarExponents(t *testing.T) {
	long := "1" + strings.Repeat("0", 400) + "7"
	for _, f := range someForms() {
		for _, digits := range []string{"1", "5", "987654321", long} {
			for _, exp := range []int{5000, 1 << 20, api.MaxExp - 1, api.MaxExp} {
				for _, mode := range everyMode {
					for _, bits := range []uint64{infinite(f) - 1, infinite(f), infinite(f) + 1, 0, 1} {
						backIs(t, f, dc(digits, exp), bits, mode, false)
					}
					backIs(t, f, dc(digits, -exp), 0, mode, mode != api.Up)
					backIs(t, f, dc(digits, -exp), 1, mode, mode == api.Up)
					backIs(t, f, dc(digits, -exp), minus(f), mode, false)
					backIs(t, f, dc("-"+digits, -exp), minus(f), mode, mode != api.Down)
					backIs(t, f, dc("-"+digits, -exp), minus(f)+1, mode, mode == api.Down)
					backIs(t, f, dc("-"+digits, -exp), 0, mode, false)
				}
			}
		}
	}
}

// notFinite are infinities and what is no number, quiet or not, with payloads and without.
func notFinite(f api.Form) []uint64 {
	inf, quiet := infinite(f), uint64(1)<<(f.Frac-1)
	return both(f, []uint64{inf, inf + 1, inf + quiet, min(inf+quiet+1, minus(f)-1), max(inf+quiet-1, inf+1), minus(f) - 1})
}

// No decimal is read back as an infinite float, or as what is no number.
func TestP182NotFinite(t *testing.T) {
	for _, f := range someForms() {
		for _, bits := range notFinite(f) {
			for _, d := range []api.Dec{dc("", 0), dc("-", 0), dc("1", 0), dc("-1", 0), dc("1", 400), dc("-1", 400), dc("1", api.MaxExp), dc("-1", api.MaxExp), dc("1", -api.MaxExp)} {
				for _, mode := range everyMode {
					backIs(t, f, d, bits, mode, false)
				}
			}
		}
	}
}

// Decimals of as many digits as there may be.
func TestP182LongDecimals(t *testing.T) {
	nines := strings.Repeat("9", api.MaxText)
	backIs(t, double, dc(nines, -api.MaxText), math.Float64bits(1), api.Even, true)
	backIs(t, double, dc(nines, -api.MaxText), math.Float64bits(1), api.Up, true)
	backIs(t, double, dc(nines, -api.MaxText), math.Float64bits(1)-1, api.Down, true)
	backIs(t, double, dc(nines, -api.MaxText), math.Float64bits(1), api.Down, false)
	middle, exp := "4503599627370496"+"5"+strings.Repeat("0", api.MaxText-18)+"1", 16-api.MaxText
	backIs(t, double, dc(middle, exp), math.Float64bits(1<<52+1), api.Even, true)
	backIs(t, double, dc(middle, exp), math.Float64bits(1<<52), api.Even, false)
	backIs(t, double, dc(middle, exp), math.Float64bits(1<<52), api.Zero, true)
	backIs(t, double, dc(middle, exp+1), math.Float64bits(1<<52+1), api.Even, false)
	backIs(t, double, dc("45035996273704965", -1), math.Float64bits(1<<52), api.Even, true)
}
