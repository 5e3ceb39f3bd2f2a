package ratio

import (
	"math/big"
	"testing"

	"numeral/api"
)

func checkCmp(t *testing.T, what string, a, b api.Ratio) {
	t.Helper()
	want := asRat(a).Cmp(asRat(b))
	if got, e := Cmp(a, b); got != want || e != api.OK {
		t.Errorf("%s: Cmp is %d, error %d; want %d", what, got, int(e), want)
	}
	if got, e := Cmp(b, a); got != -want || e != api.OK {
		t.Errorf("%s, turned: Cmp is %d, error %d; want %d", what, got, int(e), -want)
	}
}

func TestP22Cmp(t *testing.T) {
	texts := []string{"0", "1", "-1", "1/2", "-1/2", "1/3", "-1/3", "2/3", "-1/9", "4294967296", "-4294967296", "1/4294967296", "4294967295/4294967296", "4294967297/4294967296", "18446744073709551616/3"}
	for _, x := range texts {
		for _, y := range texts {
			checkCmp(t, x+" and "+y, frac(t, x), frac(t, y))
		}
	}
	r := source(3)
	for range 2000 {
		a, b := some(r, 5), some(r, 5)
		checkCmp(t, "some", a, b)
		checkCmp(t, "the same", a, a)
	}
}

// Fractions that lie as near to each other as may be, of numbers whose products are longer than a whole number may be.
func TestP22CmpLong(t *testing.T) {
	t.Parallel()
	end := beyond()
	checkNear := func(what string, n *big.Int) {
		t.Helper()
		a, b := over(plus(n, -1), n), over(plus(n, -2), plus(n, -1))
		checkCmp(t, what, a, b)
		a.Neg, b.Neg = true, true
		checkCmp(t, what+", below nought", a, b)
	}
	checkNear("of MaxLimbs limbs", plus(end, -1))
	checkNear("of just over half the limbs", power(2, maxBits/2+1))
	checkNear("of half the limbs", power(2, maxBits/2))
	great, other := plus(end, -1), plus(end, -2)
	checkCmp(t, "great and small", over(great, big.NewInt(1)), over(big.NewInt(1), great))
	checkCmp(t, "great and great", over(great, big.NewInt(1)), over(other, big.NewInt(1)))
	checkCmp(t, "small and small", over(big.NewInt(1), great), over(big.NewInt(1), other))
	checkCmp(t, "one product too long", over(great, big.NewInt(3)), over(big.NewInt(7), big.NewInt(5)))
	checkCmp(t, "near 1, either side", over(great, other), over(other, great))
	checkCmp(t, "nought and MaxLimbs", Whole(0), over(other, great))
	checkCmp(t, "the same", over(other, great), over(other, great))
}

// Of n/(n + 2^j) and (n - 2^j)/n the products differ by 2^(2j): each piece of them is once the one that tells.
func TestP22CmpPieces(t *testing.T) {
	t.Parallel()
	n := plus(power(2, maxBits-1), 1)
	for j := int64(7); j < maxBits-1; j += pieceBits / 2 {
		step := power(2, j)
		a, b := over(n, new(big.Int).Add(n, step)), over(new(big.Int).Sub(n, step), n)
		if got, e := Cmp(a, b); got != 1 || e != api.OK {
			t.Errorf("2^%d: Cmp is %d, error %d", j, got, int(e))
		}
		a.Neg, b.Neg = true, true
		if got, e := Cmp(a, b); got != -1 || e != api.OK {
			t.Errorf("2^%d, below nought: Cmp is %d, error %d", j, got, int(e))
		}
	}
}
