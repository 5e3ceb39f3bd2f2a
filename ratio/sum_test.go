package ratio

import (
	"math/big"
	"testing"

	"numeral/api"
)

// checkSums holds a and b, with each of their signs, to the library's sums and differences.
func checkSums(t *testing.T, what string, a, b api.Ratio) {
	t.Helper()
	x, y := asRat(a), asRat(b)
	got, e := Add(a, b)
	same(t, what+": a + b", got, e, new(big.Rat).Add(x, y))
	got, e = Sub(a, b)
	same(t, what+": a - b", got, e, new(big.Rat).Sub(x, y))
	got, e = Sub(b, a)
	same(t, what+": b - a", got, e, new(big.Rat).Sub(y, x))
	x.Neg(x)
	got, e = Sub(ratioOf(x), b)
	same(t, what+": -a - b", got, e, new(big.Rat).Sub(x, y))
}

func TestP23Sums(t *testing.T) {
	texts := []string{"0", "1", "-1", "1/2", "-1/2", "1/3", "-3/4", "5/6", "7/10", "-13/10", "1/4294967296", "4294967295/4294967296", "-8589934591/2"}
	for _, x := range texts {
		for _, y := range texts {
			checkSums(t, x+" and "+y, frac(t, x), frac(t, y))
		}
	}
	r := source(5)
	for range 2000 {
		checkSums(t, "some", some(r, 6), some(r, 6))
	}
}

// The Dens share much, of which the sum loses some or all.
func TestP23SumsThatCancel(t *testing.T) {
	r := source(6)
	for range 2000 {
		x, y, part := asRat(some(r, 3)), asRat(some(r, 3)), asRat(some(r, 4))
		x.Add(x, part)
		y.Sub(y, part)
		checkSums(t, "a part that goes", ratioOf(x), ratioOf(y))
		checkSums(t, "a part that stays", ratioOf(x), ratioOf(part))
	}
}

func TestP23SumsAtTheLimit(t *testing.T) {
	t.Parallel()
	end, one := beyond(), big.NewInt(1)
	whole := func(n int64) api.Ratio { return over(plus(end, n), one) }
	part := func(n, d int64) api.Ratio { return over(plus(end, n), big.NewInt(d)) }
	root := power(2, maxBits/2)
	for _, c := range []struct {
		what string
		a, b api.Ratio
	}{
		{"the greatest and 0", whole(-1), Whole(0)},
		{"the greatest and 1", whole(-1), Whole(1)},
		{"the last but one and 1", whole(-2), Whole(1)},
		{"the greatest and a half", whole(-1), frac(t, "1/2")},
		{"half the greatest and a half", over(plus(power(2, maxBits-1), -1), one), frac(t, "1/2")},
		{"half and a half more", over(power(2, maxBits-1), one), frac(t, "1/2")},
		{"the greatest and itself", whole(-1), whole(-1)},
		{"too long on the way, halved", part(-1, 2), part(-3, 2)},
		{"too long on the way, quartered", part(-1, 4), part(-3, 4)},
		{"too long even so", part(-1, 8), part(-3, 2)},
		{"a Den of MaxLimbs limbs, halved", over(plus(end, -3), plus(end, -2)), over(plus(end, -5), plus(end, -2))},
		{"a Den of MaxLimbs limbs, a whole", over(plus(end, -3), plus(end, -2)), over(one, plus(end, -2))},
		{"a Den of MaxLimbs limbs, a Num of more", over(plus(end, -2), plus(end, -1)), over(plus(end, -3), plus(end, -1))},
		{"a difference that fits, of halves and thirds", part(-3, 2), part(-2, 3)},
		{"a difference that does not, of halves and thirds", part(-1, 2), part(-2, 3)},
		{"one of the whole broken up, just fits", over(plus(power(2, maxBits-1), 1), big.NewInt(2)), over(big.NewInt(3), big.NewInt(4))},
		{"one of the whole broken up, does not", over(plus(power(2, maxBits-1), 3), big.NewInt(2)), over(big.NewInt(3), big.NewInt(4))},
		{"a Den that just fits", over(one, plus(root, -1)), over(one, root)},
		{"a Den that does not, of a short Num", over(one, root), over(one, plus(root, 1))},
		{"a Den that just fits, a long Num", over(plus(root, 5), plus(root, -1)), over(plus(root, -3), root)},
		{"Dens of MaxLimbs limbs", over(one, plus(end, -1)), over(one, plus(end, -2))},
	} {
		checkSums(t, c.what, c.a, c.b)
	}
}

// The Dens share half of their limbs; the sum loses all that they share, and just fits, while what stands over the common Den is longer by half than a number may be.
func TestP23SumsThatLoseMost(t *testing.T) {
	t.Parallel()
	threes, fives, twos := power(3, 165000), power(5, 112000), power(2, 260000)
	shared := new(big.Rat).SetFrac(plus(power(2, 258000), 1), twos)
	x := new(big.Rat).SetFrac(plus(power(2, 261000), 1), threes)
	y := new(big.Rat).SetFrac(plus(power(2, 262000), 3), fives)
	want := new(big.Rat).Add(x, y)
	if !fits(want) {
		t.Fatal("the sum is too long for this test")
	}
	a, b := ratioOf(x.Add(x, shared)), ratioOf(y.Sub(y, shared))
	got, e := Add(a, b)
	same(t, "a + b", got, e, want)
	got, e = Sub(a, b)
	refused(t, "a - b", got, e, api.ErrMany)
	b.Neg = !b.Neg
	got, e = Sub(b, a)
	same(t, "-b - a", got, e, new(big.Rat).Neg(want))
}
