package wide

import (
	"math/big"
	"strings"
	"testing"

	"numeral/api"
)

// withK is decimals of that k, of 1 to 19 digits and of more.
func withK(k int) (few, more []api.Dec) {
	for _, digits := range []string{"1", "3", "25", "123456789012345678", "1234567890123456789", "9999999999999999999", "1000000000000000001"} {
		few = append(few, dc(digits, k))
	}
	for _, size := range []int{20, 21, 38, 39, 100, 1000, api.MaxText} {
		for _, digits := range []string{"1" + strings.Repeat("0", size-2) + "1", strings.Repeat("9", size), strings.Repeat("1234567", size/7+1)[:size-1] + "1"} {
			more = append(more, dc(digits, k-(size-19)))
		}
	}
	return few, more
}

// Within the powers that are kept all goes by the ends; beyond, nothing is told, however many digits there are.
func TestP151P152PowersAtTheEnd(t *testing.T) {
	for _, k := range []int{0, 1, -1, 27, 28, 54, 55, 56, 57, 399, 400, -399, -400} {
		few, more := withK(k)
		for _, d := range append(few, more...) {
			for _, f := range someForms() {
				holds(t, f, d)
			}
		}
	}
	for _, k := range []int{401, -401, 402, -402, 419, 420, -419, -420, 500, -500, 1000, -1000, 1 << 16, -1 << 16, api.MaxExp, -api.MaxExp + api.MaxText} {
		few, more := withK(k)
		for _, d := range append(few, more...) {
			for _, f := range []api.Form{tiny, half, double} {
				bitsUnsure(t, f, d)
				betweenUnsure(t, f, d)
			}
		}
	}
}

// Of k from -400 to 400 these are told, of k beyond they are not: 400 and -400 are far beyond the floats of every form.
func TestP151P152FarPowersAreSure(t *testing.T) {
	for _, f := range someForms() {
		inf := infinite(f)
		for _, k := range []int{398, 399, 400} {
			few, more := withK(k)
			for _, d := range append(few, more...) {
				bitsIs(t, f, d, inf)
				betweenIs(t, f, d, inf-1, inf)
			}
		}
		for _, k := range []int{-398, -399, -400} {
			few, more := withK(k)
			for _, d := range append(few, more...) {
				bitsIs(t, f, d, 0)
				betweenIs(t, f, d, 0, 1)
			}
		}
		for _, d := range []api.Dec{dc("1", 401), dc("1", -401), dc("12345678901234567891", 400), dc("12345678901234567891", -402), dc("1234567890123456789", 401), dc("1234567890123456789", -401)} {
			bitsUnsure(t, f, d)
			betweenUnsure(t, f, d)
		}
		bitsIs(t, f, dc("12345678901234567891", 399), inf)
		bitsIs(t, f, dc("12345678901234567891", -401), 0)
		bitsIs(t, f, dc(strings.Repeat("7", 419), 0), inf)
		bitsUnsure(t, f, dc(strings.Repeat("7", 420), 0))
	}
}

// The exponent of a decimal alone may be far beyond what is kept, where its k is not.
func TestP151P152LongDecimals(t *testing.T) {
	for _, size := range []int{500, 1000, api.MaxText} {
		nines := strings.Repeat("9", size)
		bitsIs(t, half, dc(nines, -size), 0x3c00)
		bitsIs(t, double, dc(nines, -size), 0x3ff0000000000000)
		bitsIs(t, double, dc(strings.Repeat("3", size), -size), 0x3fd5555555555555)
		betweenIs(t, double, dc(strings.Repeat("3", size), -size), 0x3fd5555555555555, 0x3fd5555555555556)
		bitsIs(t, double, dc(strings.Repeat("3", size), 1-size), 0x400aaaaaaaaaaaab)
		bitsUnsure(t, half, dc("2049"+strings.Repeat("0", size-5)+"1", 4-size))
		bitsIs(t, half, dc("2048"+strings.Repeat("0", size-5)+"1", 4-size), 0x6800)
		betweenUnsure(t, half, dc("2048"+strings.Repeat("0", size-5)+"1", 4-size))
		betweenIs(t, half, dc("2049"+strings.Repeat("0", size-5)+"1", 4-size), 0x6800, 0x6801)
	}
}

// All decimals of up to three digits about the floats of small forms: all that they are worth, their halves, and what lies between.
func TestP151P152SmallForms(t *testing.T) {
	for _, f := range []api.Form{tiny, form(2, 2), form(2, 3), form(3, 1), form(3, 2), form(4, 3)} {
		for n := 1; n < 1000; n++ {
			if n%10 != 0 {
				for k := -5; k <= 2; k++ {
					holds(t, f, dc(big.NewInt(int64(n)).String(), k))
				}
			}
		}
	}
}

// Every float of small forms with all its digits, and every half; beside them, too, with fewer and with further digits.
func TestP151P152AboutEveryFloat(t *testing.T) {
	for _, f := range []api.Form{tiny, form(2, 4), form(3, 3), form(4, 2), form(5, 1)} {
		for bits := range infinite(f) {
			for _, d := range about(t, allDigits(t, halfOf(f, bits))) {
				holds(t, f, d)
			}
			for _, d := range about(t, allDigits(t, worthOf(f, bits+1))) {
				holds(t, f, d)
			}
		}
	}
}

// The same of some floats of greater forms, those at the ends among them.
func TestP151P152AboutSomeFloats(t *testing.T) {
	r := source(1)
	for _, f := range someForms() {
		inf, normal := infinite(f), uint64(1)<<f.Frac
		all := []uint64{0, 1, 2, 3, normal - 1, normal, normal + 1, inf - 2, inf - 1, uint64(bias(f)) << f.Frac, uint64(bias(f))<<f.Frac - 1}
		for range 12 {
			all = append(all, r.Uint64N(inf))
		}
		for _, bits := range all {
			if bits < inf {
				for _, d := range about(t, allDigits(t, halfOf(f, bits))) {
					holds(t, f, d)
				}
				for _, d := range about(t, allDigits(t, worthOf(f, bits+1))) {
					holds(t, f, d)
				}
			}
		}
	}
}

func TestP151P152SomeDecimals(t *testing.T) {
	r := source(2)
	for _, f := range someForms() {
		for range 1500 {
			holds(t, f, some(r, f))
		}
		for range 500 {
			holds(t, f, anywhere(r))
		}
	}
}

// Forms of every size, each with some decimals.
func TestP151P152EveryForm(t *testing.T) {
	r := source(3)
	for exp := 2; exp <= 11; exp++ {
		for frac := 1; frac <= 52; frac++ {
			f := form(exp, frac)
			for range 6 {
				holds(t, f, some(r, f))
			}
			bits := r.Uint64N(infinite(f))
			d := allDigits(t, halfOf(f, bits))
			holds(t, f, d)
			if len(d.Digits) > 19 {
				holds(t, f, made(t, d.Digits[:19], d.Exp+len(d.Digits)-19))
			}
		}
	}
}
