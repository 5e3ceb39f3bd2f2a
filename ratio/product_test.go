package ratio

import (
	"math"
	"math/big"
	"testing"

	"numeral/api"
)

// checkProducts holds a and b to the library's products and quotients.
func checkProducts(t *testing.T, what string, a, b api.Ratio) {
	t.Helper()
	x, y := asRat(a), asRat(b)
	got, e := Mul(a, b)
	same(t, what+": a b", got, e, new(big.Rat).Mul(x, y))
	got, e = Mul(b, a)
	same(t, what+": b a", got, e, new(big.Rat).Mul(x, y))
	got, e = Div(a, b)
	if y.Sign() == 0 {
		refused(t, what+": a over 0", got, e, api.ErrZero)
		return
	}
	same(t, what+": a over b", got, e, new(big.Rat).Quo(x, y))
}

func TestP23Products(t *testing.T) {
	texts := []string{"0", "1", "-1", "1/2", "-1/4", "2/3", "-3/4", "3/2", "-4294967296", "1/4294967296", "4294967295/4294967296"}
	for _, x := range texts {
		for _, y := range texts {
			checkProducts(t, x+" and "+y, frac(t, x), frac(t, y))
		}
	}
	r := source(7)
	for range 2000 {
		a, b := some(r, 6), some(r, 6)
		checkProducts(t, "some", a, b)
		c, e := Mul(a, b)
		if e != api.OK {
			t.Fatal("error", int(e))
		}
		checkProducts(t, "of what was multiplied", c, b)
	}
}

func TestP23ProductsAtTheLimit(t *testing.T) {
	t.Parallel()
	end, one := beyond(), big.NewInt(1)
	great, other := plus(end, -1), plus(end, -2)
	root := power(2, maxBits/2)
	for _, c := range []struct {
		what string
		a, b api.Ratio
	}{
		{"the greatest and 1", over(great, one), Whole(-1)},
		{"the greatest and 0", over(great, other), Whole(0)},
		{"the greatest and 2", over(great, one), Whole(2)},
		{"the greatest's half and 2", over(other, big.NewInt(2)), Whole(2)},
		{"2 over the least", over(one, great), Whole(2)},
		{"all cancels", over(great, other), over(other, great)},
		{"all but the signs cancels", over(great, other), over(new(big.Int).Neg(other), great)},
		{"half cancels", over(great, other), over(other, big.NewInt(7))},
		{"a Num that just fits", over(plus(root, -1), one), over(plus(root, 1), big.NewInt(9))},
		{"a Num that does not", over(root, one), over(root, big.NewInt(9))},
		{"a Den that just fits", over(one, plus(root, -1)), over(big.NewInt(9), plus(root, 1))},
		{"a Den that does not", over(one, root), over(big.NewInt(9), root)},
		{"Num and Den just fit", over(plus(root, -1), plus(root, -2)), over(plus(root, 1), plus(root, -3))},
		{"neither fits", over(great, other), over(great, other)},
		{"as many limbs as both, but one", over(power(2, maxBits-33), one), over(plus(power(2, 33), -1), one)},
		{"as many limbs as both", over(power(2, maxBits-33), one), over(power(2, 33), one)},
	} {
		checkProducts(t, c.what, c.a, c.b)
	}
}

func checkScale(t *testing.T, a api.Ratio, b uint32, n int) {
	t.Helper()
	size := n
	if n < 0 {
		size = -n
	}
	p := new(big.Rat).SetInt(power(int64(b), int64(size)))
	got, e := Scale(a, b, n)
	if n < 0 && b == 0 {
		refused(t, "Scale by a power of 0 below it", got, e, api.ErrZero)
		return
	}
	if n < 0 {
		p.Inv(p)
	}
	same(t, "Scale", got, e, p.Mul(p, asRat(a)))
}

func TestP25Scale(t *testing.T) {
	r := source(8)
	for _, b := range []uint32{0, 1, 2, 3, 4, 6, 7, 10, 12, 1 << 16, 1 << 31, 0xfffffffe, 0xffffffff} {
		for _, s := range []string{"0", "1", "-1", "3/4", "-5/4294967296", "1000/7", "-7/1000000000000"} {
			for n := -9; n <= 9; n++ {
				checkScale(t, frac(t, s), b, n)
			}
		}
		for range 50 {
			checkScale(t, some(r, 6), b, r.IntN(161)-80)
		}
	}
}

// However far n is from 0.
func TestP25ScaleFar(t *testing.T) {
	for _, n := range []int{1 << 40, -1 << 40, math.MaxInt, -math.MaxInt, math.MinInt} {
		for _, s := range []string{"1", "-3/4", "5/1267650600228229401496703205376"} {
			a := frac(t, s)
			for _, b := range []uint32{2, 7, 10, 0xffffffff} {
				got, e := Scale(a, b, n)
				refused(t, "Scale, far", got, e, api.ErrMany)
				got, e = Scale(Whole(0), b, n)
				same(t, "Scale of nought, far", got, e, new(big.Rat))
			}
			got, e := Scale(a, 1, n)
			same(t, "Scale by a power of 1", got, e, asRat(a))
			got, e = Scale(a, 0, n)
			if n < 0 {
				refused(t, "Scale by a power of 0 below it", got, e, api.ErrZero)
			} else {
				same(t, "Scale by a power of 0", got, e, new(big.Rat))
			}
			got, e = Scale(a, 0, 0)
			same(t, "Scale by 1", got, e, asRat(a))
		}
		got, e := Scale(Whole(0), 0, n)
		if n < 0 {
			refused(t, "Scale of nought by a power of 0 below it", got, e, api.ErrZero)
		} else {
			same(t, "Scale of nought by a power of 0", got, e, new(big.Rat))
		}
	}
}

// The power alone may be too long, or even twice as long as may be, where what it is cancelled to is not.
func TestP25ScaleAtTheLimit(t *testing.T) {
	t.Parallel()
	const last = maxBits - 1
	one := big.NewInt(1)
	for _, c := range []struct {
		a api.Ratio
		b uint32
		n int
	}{
		{Whole(1), 2, last},
		{Whole(1), 2, last + 1},
		{Whole(-3), 2, last - 1},
		{Whole(-3), 2, last},
		{over(one, power(2, last)), 2, 2 * last},
		{over(one, power(2, last)), 2, 2*last + 1},
		{over(one, power(2, last)), 2, 2*last + 2},
		{over(big.NewInt(3), power(2, last)), 4, last},
		{over(big.NewInt(3), power(2, last)), 1 << 31, last / 31},
		{over(one, power(2, 500000)), 6, 250000},
		{over(one, power(2, 330000)), 6, 330000},
		{over(one, power(2, 330000)), 6, 331000},
		{over(power(3, 1000), power(2, 500000)), 10, 200000},
		{over(plus(power(2, last), 1), one), 0xffffffff, 1},
		{over(one, power(0xffffffff, 16384)), 0xffffffff, 2 * 16384},
		{over(one, power(0xffffffff, 16384)), 0xffffffff, 2*16384 + 1},
	} {
		checkScale(t, c.a, c.b, c.n)
		x := asRat(c.a)
		checkScale(t, ratioOf(x.Inv(x)), c.b, -c.n)
	}
}

func TestP25ScaleAnswersShortFractions(t *testing.T) {
	a := over(plus(power(2, 90), 1), power(10, 30))
	got, e := Scale(a, 10, 30)
	same(t, "all of Den cancels", got, e, new(big.Rat).SetInt(plus(power(2, 90), 1)))
	got, e = Scale(got, 10, -30)
	same(t, "and comes back", got, e, asRat(a))
}
