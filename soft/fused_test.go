package soft

import (
	"testing"

	"numeral/api"
)

// wantFused is P7.6, word by word.
func wantFused(f api.Form, a, b, c uint64, mode uint8) told {
	if answer, is := ofNaNs(f, a, b, c); is {
		return answer
	}
	neg := isNeg(f, a) != isNeg(f, b)
	switch {
	case isInf(f, a) && isZero(f, b), isZero(f, a) && isInf(f, b):
		return noAnswer(f)
	case isInf(f, a), isInf(f, b):
		if isInf(f, c) && isNeg(f, c) != neg {
			return noAnswer(f)
		}
		return told{bits: signed(f, infinity(f), neg)}
	case isInf(f, c):
		return told{bits: c}
	}
	product := times(worth(f, a), worth(f, b))
	minusNought := mode == api.Down
	if product.Sign() == 0 && neg == isNeg(f, c) {
		minusNought = isNeg(f, c)
	}
	return rounds(f, plus(product, worth(f, c)), minusNought, mode)
}

func checkFused(t *testing.T, f api.Form, a, b, c uint64) {
	t.Helper()
	checkThree(t, "Fma", Fma, wantFused, f, a, b, c)
}

func TestP76FmaOfSmallForms(t *testing.T) {
	t.Parallel()
	eachForm(t, smallForms()[:3], func(t *testing.T, f api.Form) {
		for a := range 2 * minus(f) {
			for b := range 2 * minus(f) {
				for c := range 2 * minus(f) {
					// That a and b go in either order, TestP79EitherOrder asks: half of the pairs do here.
					if a <= b || f == form(2, 1) {
						checkFused(t, f, a, b, c)
					}
				}
			}
		}
	})
}

func TestP76FmaOfAnyForm(t *testing.T) {
	t.Parallel()
	eachForm(t, edgeForms(), func(t *testing.T, f api.Form) {
		r := source(uint64(61*f.Exp + f.Frac))
		all := allEdges(f)
		pick := func() uint64 { return all[r.IntN(len(all))] }
		for range 1200 {
			checkFused(t, f, pick(), pick(), pick())
			checkFused(t, f, some(r, f), some(r, f), some(r, f))
			checkFused(t, f, about(r, f), signed(f, about(r, f), r.IntN(2) == 0), some(r, f))
		}
	})
	r := source(6)
	for _, f := range allForms() {
		for range 4 {
			checkFused(t, f, some(r, f), some(r, f), some(r, f))
			checkFused(t, f, about(r, f), about(r, f), signed(f, about(r, f), r.IntN(2) == 0))
		}
	}
}

// A fused sum that cancels: what a product loses, and what is left where one last place of it is taken away; and what a whole product is, which cancels to nought.
func TestP76Cancelling(t *testing.T) {
	t.Parallel()
	eachForm(t, append(edgeForms(), smallForms()...), func(t *testing.T, f api.Form) {
		r := source(62)
		for range 150 {
			a, b := about(r, f), signed(f, about(r, f), r.IntN(2) == 0)
			product := rounds(f, times(worth(f, a), worth(f, b)), false, api.Even).bits
			if !isFinite(f, product) {
				continue
			}
			checkFused(t, f, a, b, product^minus(f))
			checkFused(t, f, a, b, product^minus(f)^1)
			few := a &^ (1<<(f.Frac-f.Frac/2) - 1)
			checkFused(t, f, few, few, signed(f, rounds(f, times(worth(f, few), worth(f, few)), false, api.Even).bits, true))
		}
	})
	for _, c := range []struct{ a, b, c, want uint64 }{
		{0x3c01, 0x3c01, 0xbc02, 0x0010}, // (1 + 2^-10)^2 - 1 - 2^-9
		{0xbc01, 0x3c01, 0x3c02, 0x8010},
		{0x3c01, 0x3bfe, 0xbc00, 0x8010}, // (1 + 2^-10) (1 - 2^-10) - 1
		{0x7bff, 0x4000, 0xfbff, 0x7bff}, // twice the greatest, less it
		{0x7bff, 0x7bff, 0xfc00, 0xfc00},
	} {
		for _, mode := range everyMode {
			wants(t, tell(Fma(half, c.a, c.b, c.c, mode)), told{bits: c.want}, "Fma", half, mode, c.a, c.b, c.c)
		}
	}
}

func TestP76Noughts(t *testing.T) {
	for _, f := range edgeForms() {
		neg, x := minus(f), one(f)+normal(f)/2
		for _, mode := range everyMode {
			cancelled := signed(f, 0, mode == api.Down)
			for _, c := range []struct{ a, b, c, want uint64 }{
				{0, x, 0, 0}, {x, 0, 0, 0}, {0, 0, 0, 0}, {neg, neg, 0, 0}, {neg, x + neg, 0, 0},
				{neg, x, neg, neg}, {x, neg, neg, neg}, {neg, 0, neg, neg}, {0, x + neg, neg, neg},
				{neg, x, 0, cancelled}, {0, x + neg, 0, cancelled}, {0, neg, 0, cancelled}, {neg, neg, neg, cancelled}, {0, x, neg, cancelled},
				{one(f), x, x + neg, cancelled}, {one(f) + neg, x, x, cancelled}, {one(f), 1, 1 + neg, cancelled},
				{0, x, x, x}, {neg, x, x + neg, x + neg}, {neg, x, 1, 1}, {0, greatest(f), neg + 1, neg + 1},
			} {
				wants(t, tell(Fma(f, c.a, c.b, c.c, mode)), told{bits: c.want}, "Fma", f, mode, c.a, c.b, c.c)
			}
		}
	}
}

func TestP76Infinities(t *testing.T) {
	for _, f := range edgeForms() {
		inf, neg, g := infinity(f), minus(f), greatest(f)
		none := noAnswer(f)
		for _, mode := range everyMode {
			for _, c := range []struct {
				a, b, c uint64
				want    told
			}{
				{0, inf, 0, none}, {inf, 0, g, none}, {neg, inf, inf, none}, {inf + neg, neg, inf, none}, {0, inf + neg, inf, none},
				{inf, 1, inf + neg, none}, {1, inf + neg, inf, none}, {inf, inf, inf + neg, none}, {inf + neg, inf + neg, inf + neg, none},
				{inf, 1, inf, told{bits: inf}}, {1 + neg, inf, inf + neg, told{bits: inf + neg}}, {inf, inf, inf, told{bits: inf}},
				{inf, g, g + neg, told{bits: inf}}, {g + neg, inf, g, told{bits: inf + neg}}, {inf + neg, g + neg, neg, told{bits: inf}},
				{g, g, inf, told{bits: inf}}, {g, g, inf + neg, told{bits: inf + neg}}, {0, neg, inf, told{bits: inf}}, {1, 1, inf + neg, told{bits: inf + neg}},
			} {
				wants(t, tell(Fma(f, c.a, c.b, c.c, mode)), c.want, "Fma", f, mode, c.a, c.b, c.c)
			}
		}
	}
}

// A product that is just a half between two floats, and a c that moves it by as little as may be.
func TestP76BesideAHalf(t *testing.T) {
	for _, f := range []api.Form{half, single, double, form(11, 2), form(5, 52)} {
		x, y := one(f)+1, one(f)+normal(f)/2
		low := y + 1 // it lies just between this and the next one
		even := low + low%2
		for _, c := range []struct {
			c    uint64
			want [5]uint64
		}{
			{0, [5]uint64{even, low + 1, low, low + 1, low}},
			{minus(f), [5]uint64{even, low + 1, low, low + 1, low}},
			{1, [5]uint64{low + 1, low + 1, low, low + 1, low}},
			{minus(f) + 1, [5]uint64{low, low, low, low + 1, low}},
		} {
			for mode, want := range c.want {
				wants(t, tell(Fma(f, x, y, c.c, uint8(mode))), told{bits: want, flags: inexact}, "Fma", f, uint8(mode), x, y, c.c)
			}
			checkFused(t, f, x+minus(f), y, c.c)
		}
	}
}

// What is rounded once is not what a product and a sum, each rounded, come to.
func TestP76RoundedOnce(t *testing.T) {
	r := source(64)
	differ := 0
	for range 2000 {
		a, b, c := about(r, half), about(r, half), signed(half, about(r, half), r.IntN(2) == 0)
		product, _, _ := Mul(half, a, b, api.Even)
		sum, _, _ := Add(half, product, c, api.Even)
		fused, _, _ := Fma(half, a, b, c, api.Even)
		if sum != fused {
			differ++
		}
	}
	if differ < 100 {
		t.Errorf("of 2000 fused sums only %d are not those that are rounded twice", differ)
	}
}
