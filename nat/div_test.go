package nat

import (
	"math/big"
	"testing"

	"numeral/api"
)

func checkDiv(t *testing.T, a, b api.Nat) {
	t.Helper()
	q, r, e := Div(a, b)
	wantQ, wantR := new(big.Int).QuoRem(asBig(a), asBig(b), new(big.Int))
	same(t, "quotient", q, e, wantQ)
	same(t, "remainder", r, e, wantR)
}

func TestP13Examples(t *testing.T) {
	for _, c := range []struct{ a, b, q, r string }{
		{"100000000000000000000", "3", "33333333333333333333", "1"},
		{"7", "8", "0", "7"},
		{"0", "5", "0", "0"},
		{"7", "7", "1", "0"},
	} {
		q, r, e := Div(number(t, c.a), number(t, c.b))
		same(t, "quotient", q, e, asBig(number(t, c.q)))
		same(t, "remainder", r, e, asBig(number(t, c.r)))
	}
}

func TestP13ByNought(t *testing.T) {
	for _, a := range []api.Nat{{}, Of(7), greatest()} {
		q, r, e := Div(a, api.Nat{})
		refused(t, "quotient by nought", q, e, api.ErrZero)
		refused(t, "remainder by nought", r, e, api.ErrZero)
		_, _, e = Div(a, limbs([]uint32{}...))
		refused(t, "by nought that is not nil", api.Nat{}, e, api.ErrZero)
	}
}

func TestP13Edges(t *testing.T) {
	for _, b := range edges(3)[1:] {
		for _, a := range edges(4) {
			checkDiv(t, a, b)
		}
	}
}

// A guess of the highest limbs is one too great here, and is mended by adding back.
func TestP13AddBack(t *testing.T) {
	checkDiv(t, limbs(3, 0, 0x80000000), limbs(1, 0, 0x20000000))
	checkDiv(t, limbs(0, 0xfffffffe, 0x80000000), limbs(0xffffffff, 0x80000000))
	checkDiv(t, limbs(0, 0, 0x80000000, 0x7fffffff), limbs(1, 0, 0x80000000))
}

func TestP13Long(t *testing.T) {
	r := source(14)
	for range 3000 {
		a, b := some(r, 30), some(r, 15)
		if len(b.Limbs) > 0 {
			checkDiv(t, a, b)
		}
	}
	top := greatest()
	for _, b := range []api.Nat{Of(1), Of(3), limbs(1, 1), filled(8192, limbMask), filled(8191, 0x80000000), bit(524287), top} {
		checkDiv(t, top, b)
		checkDiv(t, b, top)
	}
}
