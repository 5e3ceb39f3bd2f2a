package nat

import (
	"testing"

	"numeral/api"
)

// must takes what a call answers where no error may come.
func must(t *testing.T) func(a api.Nat, e api.Errno) api.Nat {
	return func(a api.Nat, e api.Errno) api.Nat {
		t.Helper()
		if e != api.OK {
			t.Fatal("error", int(e))
		}
		return a
	}
}

func alike(t *testing.T, law string, a, b api.Nat) {
	t.Helper()
	same(t, law, a, api.OK, asBig(b))
}

func TestP19SumsAndProducts(t *testing.T) {
	r, ok := source(91), must(t)
	for range 400 {
		a, b, c := some(r, 9), some(r, 9), some(r, 9)
		alike(t, "a + b is b + a", ok(Add(a, b)), ok(Add(b, a)))
		alike(t, "a b is b a", ok(Mul(a, b)), ok(Mul(b, a)))
		alike(t, "brackets of a sum", ok(Add(ok(Add(a, b)), c)), ok(Add(a, ok(Add(b, c)))))
		alike(t, "brackets of a product", ok(Mul(ok(Mul(a, b)), c)), ok(Mul(a, ok(Mul(b, c)))))
		alike(t, "a product goes over a sum", ok(Mul(a, ok(Add(b, c)))), ok(Add(ok(Mul(a, b)), ok(Mul(a, c)))))
		back, fits, e := Sub(ok(Add(a, b)), b)
		alike(t, "Sub of Add", ok(back, e), a)
		if !fits {
			t.Error("Sub of Add: false")
		}
	}
}

func TestP19Shifts(t *testing.T) {
	r, ok := source(92), must(t)
	for range 400 {
		a, n := some(r, 9), r.IntN(200)
		power := ok(Pow(2, n))
		alike(t, "Down of Up", ok(Down(ok(Up(a, n)), n)), a)
		alike(t, "Up is Mul by a power", ok(Up(a, n)), ok(Mul(a, power)))
		q, _, e := Div(a, power)
		alike(t, "Down is Div by a power", ok(Down(a, n)), ok(q, e))
	}
}

func TestP19Bits(t *testing.T) {
	r, ok := source(93), must(t)
	for range 400 {
		a, b := some(r, 9), some(r, 9)
		if len(a.Limbs) == 0 || len(b.Limbs) == 0 {
			continue
		}
		n, _ := Bits(a)
		m, _ := Bits(b)
		if p, _ := Bits(ok(Mul(a, b))); p != n+m && p != n+m-1 {
			t.Errorf("a product of %d and %d bits has %d", n, m, p)
		}
	}
}

func TestP19Quotients(t *testing.T) {
	r, ok := source(94), must(t)
	for range 400 {
		a, b := some(r, 20), some(r, 9)
		if len(b.Limbs) == 0 {
			continue
		}
		q, rest, e := Div(a, b)
		alike(t, "a is q b + r", ok(Add(ok(Mul(ok(q, e), b)), rest)), a)
		if n, _ := Cmp(rest, b); n != -1 {
			t.Error("r is not below b")
		}
	}
}

func TestP19Texts(t *testing.T) {
	r := source(95)
	for range 400 {
		a := some(r, 30)
		s, _ := Text(a)
		back, at, e := Parse(s)
		same(t, "Parse of Text", back, e, asBig(a))
		if at != 0 {
			t.Error("the place", at, "beside OK")
		}
	}
}

func TestP19Gcd(t *testing.T) {
	r, ok := source(96), must(t)
	for range 400 {
		c := some(r, 5)
		a, b := ok(Mul(some(r, 9), c)), ok(Mul(some(r, 9), c))
		if len(a.Limbs) == 0 && len(b.Limbs) == 0 {
			continue
		}
		g := ok(Gcd(a, b))
		x, left, e := Div(a, g)
		alike(t, "a Gcd divides a", ok(left, e), api.Nat{})
		y, left, e := Div(b, g)
		alike(t, "a Gcd divides b", ok(left, e), api.Nat{})
		alike(t, "Gcd of both divided by it", ok(Gcd(x, y)), Of(1))
	}
}
