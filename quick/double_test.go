package quick

import (
	"math"
	"testing"

	"numeral/api"
	"numeral/dec"
)

func TestP141Ordinary(t *testing.T) {
	for _, c := range []struct {
		d    api.Dec
		want float64
	}{
		{dc("1", 0), 1}, {dc("15", -1), 1.5}, {dc("1", -1), 0.1}, {dc("3", -1), 0.3}, {dc("7", 0), 7}, {dc("12", 1), 120},
		{dc("314159", -5), 3.14159}, {dc("2718281828459045", -15), 2.718281828459045}, {dc("602214076", 15), 6.02214076e23}, {dc("1602176634", -28+9), 1602176634e-19},
		{dc("123456789", -22), 1.23456789e-14}, {dc("9007199254740991", 22), 9.007199254740991e37}, {dc("9007199254740991", -22), 9.007199254740991e-7}, {dc("1", -22), 1e-22},
	} {
		doubleIs(t, c.d, c.want, true)
		doubleIs(t, turned(c.d), -c.want, true)
	}
}

func TestP142Ordinary(t *testing.T) {
	for _, c := range []struct {
		d    api.Dec
		want float32
	}{
		{dc("1", 0), 1}, {dc("15", -1), 1.5}, {dc("1", -1), 0.1}, {dc("3", -1), 0.3}, {dc("7", 0), 7}, {dc("12", 1), 120},
		{dc("314159", -5), 3.14159}, {dc("2718281", -6), 2.718281}, {dc("1234567", -10), 1.234567e-4}, {dc("16777215", 10), 1.6777215e17}, {dc("16777215", -10), 1.6777215e-3}, {dc("123", 14), 1.23e16}, {dc("1", -10), 1e-10},
	} {
		singleIs(t, c.d, c.want, true)
		singleIs(t, turned(c.d), -c.want, true)
	}
}

// All digits up to a bound, with every exponent, against strconv and each eleventh against fractions.
func TestP141P142FewDigits(t *testing.T) {
	for _, k := range bothKinds {
		for n := int64(1); n < 3000; n++ {
			if n%10 == 0 {
				continue
			}
			for exp := -k.tens; exp <= k.last; exp++ {
				d := di(n, exp)
				if n%11 == 0 {
					k.holdsBoth(t, d)
				}
				if bits, ok := k.told(d); ok && bits != k.parsedBits(d) {
					t.Errorf("%s(%s): %x, but strconv reads %x", k.name, text(d), bits, k.parsedBits(d))
				}
			}
		}
	}
}

func TestP141P142P143Some(t *testing.T) {
	for _, k := range bothKinds {
		r, quick := source(1), 0
		for range 60000 {
			d := k.some(r)
			k.holds(t, d)
			if k.isQuick(d) {
				quick++
			}
		}
		if quick < 20000 || quick > 55000 {
			t.Errorf("%s: of the decimals that were tried %d are quick", k.name, quick)
		}
	}
}

// halves are all products of odd digits and a power of ten that lie just between two floats (every step-th of them): told without its twos such a product has one bit more than floats have.
func (k kind) halves(t *testing.T, step int64, each func(d api.Dec, below int64, exp int)) {
	t.Helper()
	for exp, five := 0, int64(1); five < 2*k.whole; exp, five = exp+1, five*5 {
		count := 0
		for n := k.whole/five | 1; n <= (2*k.whole-1)/five; n += 2 * (1 + (2*k.whole/five)/step) {
			if n*five < k.whole || n > k.whole {
				continue
			}
			d := di(n, exp)
			if dec.Check(d) == api.OK && k.isQuick(d) {
				each(d, n*five-1, exp)
				count++
			}
		}
		if exp > 0 && exp <= k.tens && count == 0 {
			t.Errorf("%s: no half with the exponent %d", k.name, exp)
		}
	}
}

// Of two floats that are as near the one is told whose last bit is 0: of P - 1 and P + 1, both times a power of two, it is the one that four divides.
func TestP141P142HalvesGoToTheEvenFloat(t *testing.T) {
	for _, k := range bothKinds {
		lower, upper := 0, 0
		k.halves(t, 400, func(d api.Dec, below int64, exp int) {
			even := below
			if below%4 != 0 {
				even += 2
				upper++
			} else {
				lower++
			}
			want := math.Ldexp(float64(even), exp)
			if k.size == 32 {
				singleIs(t, d, float32(want), true)
				singleIs(t, turned(d), -float32(want), true)
			} else {
				doubleIs(t, d, want, true)
				doubleIs(t, turned(d), -want, true)
			}
			k.holds(t, d)
		})
		if lower < 100 || upper < 100 {
			t.Errorf("%s: %d halves go toward nought, %d from it", k.name, lower, upper)
		}
	}
	doubleIs(t, dc("1", 23), 11920928955078124<<1*(1<<22), true)
	singleIs(t, dc("3", 10), 29296876*(1<<10), true)
}
