package short

import (
	"math"
	"math/big"
	"strings"
	"testing"

	"numeral/api"
)

func wrongForms() []api.Form {
	return []api.Form{{}, form(1, 5), form(12, 5), form(5, 0), form(5, 53), form(-5, 10), form(5, -10), form(1, 1), form(math.MaxInt, 10), form(5, math.MinInt), form(math.MaxInt, math.MaxInt), form(64, 64), form(1, 52), form(11, 53), form(2, 0), form(12, 1)}
}

func wrongModes() []uint8 { return []uint8{api.Down + 1, 9, 100, 255} }

// everyKindOfMode is those that may be and those that may not.
func everyKindOfMode() []uint8 { return append(wrongModes(), everyMode...) }

// wrongBits are bits that a form does not have, whatever they would be without what is too much.
func wrongBits(f api.Form) []uint64 {
	if f == double {
		return nil
	}
	beyond := 2 * minus(f)
	return []uint64{beyond, beyond + 1, beyond + minus(f), beyond + infinite(f), beyond + infinite(f) + 1, 1 << 63, math.MaxUint64}
}

// wrongDecimals are decimals that may not be, and the error of each.
func wrongDecimals() map[api.Dec]api.Errno {
	return map[api.Dec]api.Errno{
		{Digits: "10"}:                                   api.ErrDec,
		{Digits: "01"}:                                   api.ErrDec,
		{Digits: "0"}:                                    api.ErrDec,
		{Exp: 1}:                                         api.ErrDec,
		{Neg: true, Exp: -1}:                             api.ErrDec,
		{Digits: "1", Exp: api.MaxExp + 1}:               api.ErrDec,
		{Digits: "1", Exp: -api.MaxExp - 1}:              api.ErrDec,
		{Digits: "1", Exp: math.MinInt}:                  api.ErrDec,
		{Digits: "+1"}:                                   api.ErrDec,
		{Digits: "1x1"}:                                  api.ErrDec,
		{Digits: strings.Repeat("1", api.MaxText+1)}:     api.ErrMany,
		{Digits: strings.Repeat("x", api.MaxText+1)}:     api.ErrMany,
		{Digits: "1" + strings.Repeat("0", api.MaxText)}: api.ErrMany,
	}
}

// A form that may not be comes ahead of all else.
func TestP181P182WrongForms(t *testing.T) {
	for _, f := range wrongForms() {
		for _, bits := range []uint64{0, 1, 0x7c00, 0x7e00, 0x10000, math.MaxUint64} {
			for _, mode := range everyKindOfMode() {
				digitsRefuses(t, f, bits, mode, api.ErrForm)
				backRefuses(t, f, dc("1", 0), bits, mode, api.ErrForm)
				for d := range wrongDecimals() {
					backRefuses(t, f, d, bits, mode, api.ErrForm)
				}
			}
		}
	}
}

// A decimal that may not be comes ahead of the bits and of the mode.
func TestP182WrongDecimals(t *testing.T) {
	for _, f := range someForms() {
		all := append([]uint64{0, 1, infinite(f), infinite(f) + 1}, wrongBits(f)...)
		for d, e := range wrongDecimals() {
			for _, bits := range all {
				for _, mode := range []uint8{api.Even, api.Down, 5, 255} {
					backRefuses(t, f, d, bits, mode, e)
				}
			}
		}
	}
}

// Bits that the form does not have come ahead of the mode.
func TestP181P182WrongBits(t *testing.T) {
	for _, f := range allForms() {
		for _, bits := range wrongBits(f) {
			for _, mode := range everyKindOfMode() {
				digitsRefuses(t, f, bits, mode, api.ErrBits)
				backRefuses(t, f, dc("1", 0), bits, mode, api.ErrBits)
				backRefuses(t, f, dc("", 0), bits, mode, api.ErrBits)
			}
		}
	}
}

// A wrong mode comes ahead of a float that is not finite, and counts beside a nought, too.
func TestP181P182WrongModes(t *testing.T) {
	for _, f := range someForms() {
		for _, bits := range append(notFinite(f), both(f, edges(f))...) {
			for _, mode := range wrongModes() {
				digitsRefuses(t, f, bits, mode, api.ErrMode)
				for _, d := range []api.Dec{dc("", 0), dc("-", 0), dc("15", -1), dc("1", api.MaxExp), dc("1", -api.MaxExp)} {
					backRefuses(t, f, d, bits, mode, api.ErrMode)
				}
			}
		}
	}
	for mode := int(api.Down) + 1; mode < 256; mode++ {
		digitsRefuses(t, half, 0x3c00, uint8(mode), api.ErrMode)
		backRefuses(t, half, dc("1", 0), 0x3c00, uint8(mode), api.ErrMode)
	}
}

func TestP181NotFinite(t *testing.T) {
	for _, f := range allForms() {
		for _, bits := range notFinite(f) {
			for _, mode := range everyMode {
				digitsRefuses(t, f, bits, mode, api.ErrFinite)
			}
		}
	}
	for _, f := range smallForms() {
		for bits := infinite(f); bits < minus(f); bits++ {
			digitsRefuses(t, f, bits, api.Even, api.ErrFinite)
			digitsRefuses(t, f, bits+minus(f), api.Up, api.ErrFinite)
		}
	}
}

// wrongRatios are fractions that may not be.
func wrongRatios() []api.Ratio {
	limbs := func(l ...uint32) api.Nat { return api.Nat{Limbs: l} }
	long := make([]uint32, api.MaxLimbs+1)
	long[api.MaxLimbs] = 1
	return []api.Ratio{
		{},
		{Num: limbs(1)},
		{Num: limbs(2), Den: limbs(4)},
		{Neg: true, Den: limbs(1)},
		{Den: limbs(2)},
		{Num: limbs(1), Den: limbs(0)},
		{Num: limbs(1, 0), Den: limbs(1)},
		{Num: limbs(1), Den: limbs(3, 0)},
		{Num: limbs(long...), Den: limbs(1)},
		{Num: limbs(1), Den: limbs(long...)},
		{Num: limbs(make([]uint32, 257)...), Den: limbs(1)},
	}
}

// tooLong are fractions of one limb more than there may be, above the line and below it, and of far more.
func tooLong() []api.Ratio {
	power := func(n int) *big.Int { return new(big.Int).Lsh(big.NewInt(1), uint(n)) }
	var all []api.Ratio
	for _, n := range []int{32 * 256, 32*256 + 31, 64 * 256, 32*api.MaxLimbs - 1} {
		x := new(big.Rat).SetInt(power(n))
		all = append(all, fraction(x), fraction(turnedRat(x)), fraction(x.Inv(x)))
	}
	return all
}

func withinRefuses(t *testing.T, low, high api.Ratio, at api.Ratio, want api.Errno) {
	t.Helper()
	for n := range 4 {
		d, is, e := Within(low, high, n&1 == 1, n&2 == 2, at)
		if d != (api.Dec{}) || is || e != want {
			t.Errorf("Within: %s, %v, error %d; want the error %d", show(d), is, int(e), int(want))
		}
	}
}

// A fraction that may not be, in each place, comes ahead of one that is too long in another, and of a number that does not lie in the interval.
func TestP183WrongRatios(t *testing.T) {
	long := tooLong()[0]
	for _, wrong := range wrongRatios() {
		for _, x := range []api.Ratio{fraction(rat("1/2")), fraction(rat("0")), long} {
			for _, y := range []api.Ratio{fraction(rat("1/3")), fraction(rat("1")), long, wrong} {
				withinRefuses(t, wrong, x, y, api.ErrRatio)
				withinRefuses(t, x, wrong, y, api.ErrRatio)
				withinRefuses(t, x, y, wrong, api.ErrRatio)
			}
		}
	}
}

// One that is too long, in each place, comes ahead of a number that does not lie in the interval.
func TestP183TooLong(t *testing.T) {
	for _, long := range tooLong() {
		for _, x := range []api.Ratio{fraction(rat("1/2")), fraction(rat("0"))} {
			for _, y := range []api.Ratio{fraction(rat("1/3")), fraction(rat("1")), long} {
				withinRefuses(t, long, x, y, api.ErrMany)
				withinRefuses(t, x, long, y, api.ErrMany)
				withinRefuses(t, x, y, long, api.ErrMany)
			}
		}
	}
}

// A number that does not lie in the interval, one that is upside down among them.
func TestP183NotWithin(t *testing.T) {
	for _, c := range [][3]string{
		{"1/3", "1/2", "1"}, {"1/3", "1/2", "0"}, {"1/3", "1/2", "-2/5"}, {"1", "0", "1/2"}, {"1", "0", "1"}, {"1", "0", "0"}, {"1/2", "1/3", "2/5"},
		{"-1", "-2", "-3/2"}, {"1/3", "1/3", "1/4"}, {"1/3", "1/3", "1/2"}, {"1", "-1", "0"}, {"1/3", "1/2", "50000001/100000000"}, {"0", "0", "1"},
	} {
		withinRefuses(t, fraction(rat(c[0])), fraction(rat(c[1])), fraction(rat(c[2])), api.ErrArg)
	}
}

// Whatever is handed in, each call ends, without a panic, and beside an error all else is zero.
func TestAnythingAtAll(t *testing.T) {
	r := source(9)
	numbers := []int{math.MinInt, -1, 0, 1, 2, 5, 11, 12, 52, 53, math.MaxInt}
	texts := []string{"", "1", "10", "0", "9", "123", "-1", "x", "\xff"}
	for range 20000 {
		f := form(numbers[r.IntN(len(numbers))], numbers[r.IntN(len(numbers))])
		bits, mode := r.Uint64()>>r.IntN(64), uint8(r.IntN(7))
		d := api.Dec{Neg: r.IntN(2) == 0, Digits: texts[r.IntN(len(texts))], Exp: numbers[r.IntN(len(numbers))]}
		if got, e := Digits(f, bits, mode); e != api.OK && got != (api.Dec{}) {
			t.Errorf("Digits(%v, %#x, %d): %s beside the error %d", f, bits, mode, show(got), int(e))
		}
		if is, e := Back(f, d, bits, mode); e != api.OK && is {
			t.Errorf("Back(%v, %s, %#x, %d): true beside the error %d", f, show(d), bits, mode, int(e))
		}
		some := func() api.Ratio {
			limbs := func() api.Nat {
				l := make([]uint32, r.IntN(3))
				for i := range l {
					l[i] = r.Uint32() >> r.IntN(33)
				}
				return api.Nat{Limbs: l}
			}
			return api.Ratio{Neg: r.IntN(2) == 0, Num: limbs(), Den: limbs()}
		}
		if got, is, e := Within(some(), some(), r.IntN(2) == 0, r.IntN(2) == 0, some()); !is && got != (api.Dec{}) || e != api.OK && is {
			t.Errorf("Within: %s, %v beside the error %d", show(got), is, int(e))
		}
	}
}
