package read

import (
	"testing"

	"numeral/api"
)

// bitsAnswer wants these answers of a text, and of the text with a minus ahead by the mirrored mode.
func bitsAnswer(t *testing.T, f api.Form, s string, want answers) {
	t.Helper()
	for _, mode := range everyMode {
		bitsAre(t, f, s, mode, want[mode])
		other := want[mirror[mode]]
		other.bits ^= signBit(f)
		bitsAre(t, f, "-"+s, mode, other)
	}
}

func TestP162WrittenOut(t *testing.T) {
	for _, c := range []struct {
		f    api.Form
		s    string
		want answers
	}{
		{half, "1", alike(0x3c00)}, {half, "1.50", alike(0x3e00)}, {half, "0x1.8p3", alike(0x4a00)}, {half, "\u0661_5.0e-\u0661", alike(0x3e00)},
		{half, "0", alike(0)}, {half, ".000e7", alike(0)}, {half, "0x0.0p9", alike(0)}, {half, "0e-99999999999999999999", alike(0)},
		{half, "inf", alike(0x7c00)}, {half, "Infinity", alike(0x7c00)}, {half, "nan", alike(0x7e00)}, {half, "NaN(511)", alike(0x7fff)}, {least, "nan(0)", alike(7)}, {double, "nan(2251799813685247)", alike(0x7fffffffffffffff)},
		{half, "0.1", flagged(inexact, 0x2e66, 0x2e66, 0x2e66, 0x2e67, 0x2e66)},
		{half, "1.00048828125", flagged(inexact, 0x3c00, 0x3c01, 0x3c00, 0x3c01, 0x3c00)},
		{half, "1.00146484375", flagged(inexact, 0x3c02, 0x3c02, 0x3c01, 0x3c02, 0x3c01)},
		{half, "1.00048828125" + again("0", 400) + "1", flagged(inexact, 0x3c01, 0x3c01, 0x3c00, 0x3c01, 0x3c00)},
		{half, "1.00048828124" + again("9", 400), flagged(inexact, 0x3c00, 0x3c00, 0x3c00, 0x3c01, 0x3c00)},
		{half, "1" + again("0", 500) + "e-500", alike(0x3c00)},
		{half, "0." + again("0", 500) + "1e501", alike(0x3c00)},
		{single, "3.14159265358979", flagged(inexact, 0x40490fdb, 0x40490fdb, 0x40490fda, 0x40490fdb, 0x40490fda)},
		{double, "0.1", flagged(inexact, 0x3fb999999999999a, 0x3fb999999999999a, 0x3fb9999999999999, 0x3fb999999999999a, 0x3fb9999999999999)},
		{double, "1.00000000000000011102230246251565404236316680908203125", flagged(inexact, 0x3ff0000000000000, 0x3ff0000000000001, 0x3ff0000000000000, 0x3ff0000000000001, 0x3ff0000000000000)},
		{double, "1.00000000000000011102230246251565404236316680908203124", flagged(inexact, 0x3ff0000000000000, 0x3ff0000000000000, 0x3ff0000000000000, 0x3ff0000000000001, 0x3ff0000000000000)},
		{double, "1.00000000000000011102230246251565404236316680908203126", flagged(inexact, 0x3ff0000000000001, 0x3ff0000000000001, 0x3ff0000000000000, 0x3ff0000000000001, 0x3ff0000000000000)},
		{double, "12345678901234567890123456789e-9", flagged(inexact, 0x43e56a95319d63e1, 0x43e56a95319d63e1, 0x43e56a95319d63e1, 0x43e56a95319d63e2, 0x43e56a95319d63e1)},
	} {
		bitsAnswer(t, c.f, c.s, c.want)
	}
}

// Overflow is what comes out beyond the greatest float, as if exponents had no upper end: by Zero and Down that begins at its double's place, by Up at once.
func TestP162GreatestFloats(t *testing.T) {
	const inf, last = 0x7ff0000000000000, 0x7fefffffffffffff
	for _, c := range []struct {
		f    api.Form
		s    string
		want answers
	}{
		{half, "65503.99", flagged(inexact, 0x7bff, 0x7bff, 0x7bfe, 0x7bff, 0x7bfe)},
		{half, "65504", alike(0x7bff)},
		{half, "65504.000001", answers{{0x7bff, inexact}, {0x7bff, inexact}, {0x7bff, inexact}, {0x7c00, overflow}, {0x7bff, inexact}}},
		{half, "65519.9999999999999999999999", answers{{0x7bff, inexact}, {0x7bff, inexact}, {0x7bff, inexact}, {0x7c00, overflow}, {0x7bff, inexact}}},
		{half, "65520", answers{{0x7c00, overflow}, {0x7c00, overflow}, {0x7bff, inexact}, {0x7c00, overflow}, {0x7bff, inexact}}},
		{half, "65535.99999", answers{{0x7c00, overflow}, {0x7c00, overflow}, {0x7bff, inexact}, {0x7c00, overflow}, {0x7bff, inexact}}},
		{half, "65536", flagged(overflow, 0x7c00, 0x7c00, 0x7bff, 0x7c00, 0x7bff)},
		{half, "1e400", flagged(overflow, 0x7c00, 0x7c00, 0x7bff, 0x7c00, 0x7bff)},
		{half, "1e401", flagged(overflow, 0x7c00, 0x7c00, 0x7bff, 0x7c00, 0x7bff)},
		{least, "3", alike(5)},
		{least, "3.25", answers{{5, inexact}, {5, inexact}, {5, inexact}, {6, overflow}, {5, inexact}}},
		{least, "3.5", answers{{6, overflow}, {6, overflow}, {5, inexact}, {6, overflow}, {5, inexact}}},
		{least, "4", flagged(overflow, 6, 6, 5, 6, 5)},
		{double, "1.7976931348623157e308", flagged(inexact, last, last, last-1, last, last-1)},
		{double, "1.7976931348623158e308", answers{{last, inexact}, {last, inexact}, {last, inexact}, {inf, overflow}, {last, inexact}}},
		{double, "1.797693134862315808e308", answers{{inf, overflow}, {inf, overflow}, {last, inexact}, {inf, overflow}, {last, inexact}}},
		{double, "1.8e308", flagged(overflow, inf, inf, last, inf, last)},
		{single, "3.4028235e38", answers{{0x7f7fffff, inexact}, {0x7f7fffff, inexact}, {0x7f7fffff, inexact}, {0x7f800000, overflow}, {0x7f7fffff, inexact}}},
		{single, "3.4028236e38", answers{{0x7f800000, overflow}, {0x7f800000, overflow}, {0x7f7fffff, inexact}, {0x7f800000, overflow}, {0x7f7fffff, inexact}}},
		{single, "3.5e38", flagged(overflow, 0x7f800000, 0x7f800000, 0x7f7fffff, 0x7f800000, 0x7f7fffff)},
	} {
		bitsAnswer(t, c.f, c.s, c.want)
	}
}

// Tiny is what is below the least normal float once it is rounded as if exponents had no lower end: so what comes up to that float may be tiny or not.
func TestP162LeastFloats(t *testing.T) {
	for _, c := range []struct {
		f    api.Form
		s    string
		want answers
	}{
		{half, "0.000000059604644775390625", alike(1)},
		{half, "5.9604644775390624e-8", flagged(underflow, 1, 1, 0, 1, 0)},
		{half, "0.0000000298023223876953125", flagged(underflow, 0, 1, 0, 1, 0)},
		{half, "0.0000000298023223876953126", flagged(underflow, 1, 1, 0, 1, 0)},
		{half, "0.0000000298023223876953124", flagged(underflow, 0, 0, 0, 1, 0)},
		{half, "0.0000000298023223876953125" + again("0", 300) + "1", flagged(underflow, 1, 1, 0, 1, 0)},
		{half, "0.0000000894069671630859375", flagged(underflow, 2, 2, 1, 2, 1)},
		{half, "1e-400", flagged(underflow, 0, 0, 0, 1, 0)},
		{half, "1e-401", flagged(underflow, 0, 0, 0, 1, 0)},
		{half, "0.0001", flagged(inexact, 0x68e, 0x68e, 0x68d, 0x68e, 0x68d)},
		{half, "0.00001", flagged(underflow, 0xa8, 0xa8, 0xa7, 0xa8, 0xa7)},
		{half, "0.00006103515625", alike(0x400)},
		{half, "0.00006109476089477539", answers{{0x401, inexact}, {0x401, inexact}, {0x400, inexact}, {0x401, inexact}, {0x400, inexact}}},
		// 2047/2048 and 4095/4096 of the least normal float: at the last place of an exponent without end, and just between that and the float.
		{half, "0.00006100535392761230", flagged(underflow, 0x3ff, 0x3ff, 0x3ff, 0x400, 0x3ff)},
		{half, "0.00006101", answers{{0x400, underflow}, {0x400, underflow}, {0x3ff, underflow}, {0x400, inexact}, {0x3ff, underflow}}},
		{half, "0.0000610202550888061523437499", answers{{0x400, underflow}, {0x400, underflow}, {0x3ff, underflow}, {0x400, inexact}, {0x3ff, underflow}}},
		{half, "0.00006102025508880615234375", answers{{0x400, inexact}, {0x400, inexact}, {0x3ff, underflow}, {0x400, inexact}, {0x3ff, underflow}}},
		{half, "0.00006103", answers{{0x400, inexact}, {0x400, inexact}, {0x3ff, underflow}, {0x400, inexact}, {0x3ff, underflow}}},
		{least, "0.5", alike(1)},
		{least, "0.25", flagged(underflow, 0, 1, 0, 1, 0)},
		{least, "0.75", flagged(underflow, 2, 2, 1, 2, 1)},
		{least, "0.875", answers{{2, inexact}, {2, inexact}, {1, underflow}, {2, inexact}, {1, underflow}}},
		{least, "0.87499999999999999999", answers{{2, underflow}, {2, underflow}, {1, underflow}, {2, inexact}, {1, underflow}}},
		{double, "5e-324", flagged(underflow, 1, 1, 1, 2, 1)},
		{double, "4.9e-324", flagged(underflow, 1, 1, 0, 1, 0)},
		{double, "2.4703282292062327208e-324", flagged(underflow, 0, 0, 0, 1, 0)},
		{double, "2.4703282292062327209e-324", flagged(underflow, 1, 1, 0, 1, 0)},
		{double, "2.2250738585072014e-308", flagged(inexact, 1<<52, 1<<52, 1<<52, 1<<52+1, 1<<52)},
		{double, "2.2250738585072013e-308", answers{{1 << 52, inexact}, {1 << 52, inexact}, {1<<52 - 1, underflow}, {1 << 52, inexact}, {1<<52 - 1, underflow}}},
		{double, "2.2250738585072012e-308", answers{{1 << 52, underflow}, {1 << 52, underflow}, {1<<52 - 1, underflow}, {1 << 52, inexact}, {1<<52 - 1, underflow}}},
		{double, "2.225073858507201e-308", flagged(underflow, 1<<52-1, 1<<52-1, 1<<52-1, 1<<52, 1<<52-1)},
		{single, "1e-45", flagged(underflow, 1, 1, 0, 1, 0)},
		{single, "7e-46", flagged(underflow, 0, 0, 0, 1, 0)},
		{single, "1.1754944e-38", flagged(inexact, 0x800000, 0x800000, 0x800000, 0x800001, 0x800000)},
	} {
		bitsAnswer(t, c.f, c.s, c.want)
	}
}

// Exponents without end, on both sides, and digits that don't bring them back, and such that do.
func TestP162ExponentsWithoutEnd(t *testing.T) {
	for _, f := range someForms() {
		inf := infinite(f)
		beyond := flagged(overflow, inf, inf, inf-1, inf, inf-1)
		near := flagged(underflow, 0, 0, 0, 1, 0)
		for _, exp := range []string{"5000", "1073741823", "1073741824", "1073741825", "999999999999", "9223372036854775807", "9223372036854775808", "18446744073709551617", again("9", 1000)} {
			for _, digits := range []string{"1", "9.99", "0.0001", "123456789012345678901234567890"} {
				bitsAnswer(t, f, digits+"e"+exp, beyond)
				bitsAnswer(t, f, digits+"E+"+exp, beyond)
				bitsAnswer(t, f, digits+"e-"+exp, near)
			}
			bitsAnswer(t, f, "0x1.8p"+exp, beyond)
			bitsAnswer(t, f, "0x1.8p-"+exp, near)
			bitsAnswer(t, f, "0.00e"+exp, alike(0))
			bitsAnswer(t, f, "0e-"+exp, alike(0))
			bitsAnswer(t, f, "0x0p-"+exp, alike(0))
		}
		one := uint64(bias(f)) << f.Frac
		bitsAnswer(t, f, "0."+again("0", 60000)+"1e60001", alike(one))
		bitsAnswer(t, f, "1"+again("0", 60000)+"e-60000", alike(one))
	}
}

// Every float of small forms, just there and beside it, the middle between it and the next one likewise, to the greatest float and beyond.
func TestP162EveryMiddleOfSmallForms(t *testing.T) {
	r := source(50)
	for _, f := range smallForms() {
		for bits := range infinite(f) + 1 {
			for _, x := range []number{numberOf(worthOf(f, bits), false), numberOf(middleOf(f, bits), false)} {
				for _, n := range append(x.beside(1+r.IntN(4)), x.beside(300)...) {
					n.both(t, r, f)
				}
			}
		}
	}
}

// edges are the floats without a sign that the document names, and those beside them.
func edges(f api.Form) []uint64 {
	one := uint64(bias(f)) << f.Frac
	return []uint64{0, 1, 2, normal(f) - 2, normal(f) - 1, normal(f), normal(f) + 1, one - 1, one, infinite(f) - 2, infinite(f) - 1, infinite(f)}
}

func TestP162MiddlesOfFloats(t *testing.T) {
	r := source(51)
	for _, f := range someForms() {
		all := edges(f)
		for range 8 {
			all = append(all, r.Uint64N(infinite(f)))
		}
		for _, bits := range all {
			for _, x := range []number{numberOf(worthOf(f, bits), false), numberOf(middleOf(f, bits), false)} {
				for _, far := range []int{1 + r.IntN(20), 200 + r.IntN(200)} {
					for _, n := range x.beside(far) {
						n.both(t, r, f)
					}
				}
			}
		}
	}
}

// Just between the least normal float and what is below it, where exponents have no lower end: there tininess begins.
func TestP162WhereTininessBegins(t *testing.T) {
	r := source(52)
	for _, f := range someForms() {
		// Half and a quarter of a step below the float, and three quarters: the steps there are half of those above.
		for _, quarters := range []int{1, 2, 3} {
			x := times2(worthOf(f, 4*normal(f)-uint64(quarters)), -2)
			for _, n := range append(numberOf(x, false).beside(1), numberOf(x, false).beside(250)...) {
				n.both(t, r, f)
			}
		}
	}
}

func TestP162SomeNumbers(t *testing.T) {
	r := source(53)
	for _, f := range someForms() {
		for range 400 {
			someNumber(r, f).rightly(t, r, f)
			number{r.IntN(2) == 0, someDigits(r, 1+r.IntN(20)), r.IntN(900) - 450}.rightly(t, r, f)
			number{r.IntN(2) == 0, someDigits(r, 1+r.IntN(6)), r.IntN(12) - 6}.rightly(t, r, f)
		}
	}
	for range 400 {
		f := form(2+r.IntN(10), 1+r.IntN(52))
		someNumber(r, f).rightly(t, r, f)
	}
}

// 19 digits and more: what stands behind may decide, however far.
func TestP162ManyDigits(t *testing.T) {
	r := source(54)
	for _, f := range []api.Form{double, single, half, form(2, 52), form(11, 1)} {
		for _, count := range []int{18, 19, 20, 21, 38, 39, 100, 760, 800, 2000} {
			for range 6 {
				first := r.IntN(bias(f)*30103/50000+1) - bias(f)*30103/100000
				number{r.IntN(2) == 0, someDigits(r, count), first - count}.rightly(t, r, f)
			}
			number{false, again("9", count), -count}.both(t, r, f)
			number{false, "1" + again("0", count-2) + "1", 1 - count}.both(t, r, f)
		}
	}
}

// Texts of just MaxText bytes are read; one more byte is refused, whatever stands there.
func TestP162LongTexts(t *testing.T) {
	bitsAnswer(t, half, again("0", most-2)+"1", alike(0x3c00))
	bitsAnswer(t, half, "1."+again("0", most-4)+"1", flagged(inexact, 0x3c00, 0x3c00, 0x3c00, 0x3c01, 0x3c00))
	bitsAnswer(t, double, "0."+again("9", most-3), flagged(inexact, 0x3ff0000000000000, 0x3ff0000000000000, 0x3fefffffffffffff, 0x3ff0000000000000, 0x3fefffffffffffff))
	middle := "1.00000000000000011102230246251565404236316680908203125"
	bitsAnswer(t, double, middle+again("0", most-2-len(middle))+"1", flagged(inexact, 0x3ff0000000000001, 0x3ff0000000000001, 0x3ff0000000000000, 0x3ff0000000000001, 0x3ff0000000000000))
	for _, mode := range everyMode {
		bitsAre(t, half, again("0", most-1)+"1", mode, told{0x3c00, 0})
		bitsRefuse(t, half, again("0", most)+"1", mode, api.ErrText, 0)
		bitsRefuse(t, half, again("x", most+1), mode, api.ErrText, 0)
	}
}
