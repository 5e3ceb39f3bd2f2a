package ratio

import (
	"testing"

	"numeral/api"
	"numeral/nat"
)

// must takes what a call answers where no error may come.
func must(t *testing.T) func(a api.Ratio, e api.Errno) api.Ratio {
	return func(a api.Ratio, e api.Errno) api.Ratio {
		t.Helper()
		if e != api.OK {
			t.Fatal("error", int(e))
		}
		return a
	}
}

func alike(t *testing.T, law string, a, b api.Ratio) {
	t.Helper()
	if !sameFields(a, b) || Check(a) != api.OK {
		t.Errorf("%s: %s is not %s", law, asRat(a), asRat(b))
	}
}

func TestP28Laws(t *testing.T) {
	r, ok := source(11), must(t)
	for range 1000 {
		a, b, c := some(r, 4), some(r, 4), some(r, 4)
		alike(t, "a + b is b + a", ok(Add(a, b)), ok(Add(b, a)))
		alike(t, "a b is b a", ok(Mul(a, b)), ok(Mul(b, a)))
		alike(t, "brackets of a sum", ok(Add(ok(Add(a, b)), c)), ok(Add(a, ok(Add(b, c)))))
		alike(t, "brackets of a product", ok(Mul(ok(Mul(a, b)), c)), ok(Mul(a, ok(Mul(b, c)))))
		alike(t, "a product goes over a sum", ok(Mul(a, ok(Add(b, c)))), ok(Add(ok(Mul(a, b)), ok(Mul(a, c)))))
		alike(t, "what was added is taken away", ok(Sub(ok(Add(a, b)), b)), a)
		alike(t, "a less b is a and b turned", ok(Sub(a, b)), ok(Add(a, ok(Neg(b)))))
		if !isNought(b.Num) {
			alike(t, "what was multiplied is divided", ok(Div(ok(Mul(a, b)), b)), a)
		}
	}
}

func TestP28CmpIsTheSignOfSub(t *testing.T) {
	r, ok := source(12), must(t)
	for range 1000 {
		a, b := some(r, 1), some(r, 1)
		if r.IntN(4) == 0 {
			b = copied(a.Neg, a)
		}
		n, e := Cmp(a, b)
		less := ok(Sub(a, b))
		if e != api.OK || n != asRat(less).Sign() || (n == 0) != sameFields(a, b) {
			t.Errorf("Cmp of %s and %s is %d", asRat(a), asRat(b), n)
		}
	}
}

func TestP29FloorIsBelow(t *testing.T) {
	r, ok := source(13), must(t)
	for range 1000 {
		a := some(r, 5)
		neg, n, e := Floor(a)
		whole := ok(Make(neg, n, nat.Of(1)))
		if c, _ := Cmp(whole, a); e != api.OK || c > 0 {
			t.Errorf("Floor of %s is above it", asRat(a))
		}
		if c, _ := Cmp(a, ok(Add(whole, Whole(1)))); c >= 0 {
			t.Errorf("Floor of %s is 1 below it, or more", asRat(a))
		}
	}
}

func TestP29Texts(t *testing.T) {
	r := source(14)
	for range 1000 {
		a := some(r, 9)
		s, _ := Text(a)
		back, at, e := Parse(s)
		if e != api.OK || at != 0 || !sameFields(back, a) {
			t.Errorf("Parse of Text of %s: error %d at %d", asRat(a), int(e), at)
		}
	}
}
