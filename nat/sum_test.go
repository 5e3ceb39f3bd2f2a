package nat

import (
	"math/big"
	"testing"

	"numeral/api"
)

func checkSums(t *testing.T, a, b api.Nat) {
	t.Helper()
	x, y := asBig(a), asBig(b)
	sum, e := Add(a, b)
	same(t, "Add", sum, e, new(big.Int).Add(x, y))
	product, e := Mul(a, b)
	same(t, "Mul", product, e, new(big.Int).Mul(x, y))
	rest, ok, e := Sub(a, b)
	if x.Cmp(y) < 0 {
		if ok || e != api.OK || len(rest.Limbs) != 0 {
			t.Errorf("Sub(%s, %s): %v %t, error %d", x, y, rest, ok, int(e))
		}
		return
	}
	same(t, "Sub", rest, e, new(big.Int).Sub(x, y))
	if !ok {
		t.Errorf("Sub(%s, %s): false", x, y)
	}
}

func TestP12Examples(t *testing.T) {
	for _, c := range []struct{ a, b, sum, product, less string }{
		{"4294967295", "1", "4294967296", "4294967295", "4294967294"},
		{"4294967296", "1", "4294967297", "4294967296", "4294967295"},
		{"4294967295", "4294967295", "8589934590", "18446744065119617025", "0"},
		{"1", "2", "3", "2", ""},
	} {
		a, b := number(t, c.a), number(t, c.b)
		sum, e := Add(a, b)
		same(t, "Add", sum, e, asBig(number(t, c.sum)))
		product, e := Mul(a, b)
		same(t, "Mul", product, e, asBig(number(t, c.product)))
		rest, ok, e := Sub(a, b)
		if ok != (c.less != "") || e != api.OK {
			t.Errorf("Sub(%s, %s): %t, error %d", c.a, c.b, ok, int(e))
		}
		if ok {
			same(t, "Sub", rest, e, asBig(number(t, c.less)))
		} else if len(rest.Limbs) != 0 {
			t.Errorf("Sub(%s, %s): %v beside false", c.a, c.b, rest)
		}
	}
}

func TestP12AddSubMul(t *testing.T) {
	all := edges(2)
	for _, a := range all {
		for _, b := range all {
			checkSums(t, a, b)
		}
	}
	r := source(13)
	for range 2000 {
		checkSums(t, some(r, 12), some(r, 12))
	}
	checkSums(t, filled(300, limbMask), filled(200, limbMask))
	checkSums(t, bit(3200), some(r, 100))
}

func TestP12AddMany(t *testing.T) {
	top := greatest()
	sum, e := Add(top, Of(1))
	refused(t, "the greatest and 1", sum, e, api.ErrMany)
	sum, e = Add(Of(1), top)
	refused(t, "1 and the greatest", sum, e, api.ErrMany)
	sum, e = Add(top, top)
	refused(t, "the greatest twice", sum, e, api.ErrMany)
	sum, e = Add(bit(524287), bit(524287))
	refused(t, "2^524287 twice", sum, e, api.ErrMany)
	sum, e = Add(top, api.Nat{})
	same(t, "the greatest and nought", sum, e, asBig(top))
	below, ok, _ := Sub(top, Of(1))
	if !ok {
		t.Error("the greatest less 1: false")
	}
	sum, e = Add(below, Of(1))
	same(t, "one below the greatest and 1", sum, e, asBig(top))
	rest, ok, e := Sub(top, top)
	if !ok || e != api.OK || len(rest.Limbs) != 0 {
		t.Error("the greatest less itself", len(rest.Limbs), ok, int(e))
	}
}

func TestP12MulMany(t *testing.T) {
	top := greatest()
	for _, c := range []struct {
		what string
		a, b api.Nat
	}{
		{"the greatest twice", top, Of(2)},
		{"twice the greatest", Of(2), top},
		{"the greatest squared", top, top},
		{"2^262144 squared", bit(262144), bit(262144)},
		{"limbs of 16385 in all, too great", filled(8192, limbMask), filled(8193, limbMask)},
		{"a product of 16385 limbs, the last one 1", filled(8193, 1), bit(8192 * 32)},
	} {
		product, e := Mul(c.a, c.b)
		refused(t, c.what, product, e, api.ErrMany)
	}
	for _, c := range []struct {
		what string
		a, b api.Nat
	}{
		{"the greatest once", top, Of(1)},
		{"once the greatest", Of(1), top},
		{"nought times the greatest", api.Nat{}, top},
		{"the greatest times nought", top, api.Nat{}},
		{"2^262143 times 2^262144", bit(262143), bit(262144)},
		{"limbs of 16385 in all that fit", filled(8192, 0x10), filled(8193, 0x10)},
		{"just MaxLimbs limbs", filled(8192, limbMask), filled(8192, limbMask)},
	} {
		product, e := Mul(c.a, c.b)
		same(t, c.what, product, e, new(big.Int).Mul(asBig(c.a), asBig(c.b)))
	}
}
