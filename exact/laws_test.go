package exact

import (
	"cmp"
	"math"
	"math/big"
	"testing"

	"numeral/api"
)

// must takes what a call answers where no error may come.
func must(t *testing.T) func(d api.Dyadic, e api.Errno) api.Dyadic {
	return func(d api.Dyadic, e api.Errno) api.Dyadic {
		t.Helper()
		if e != api.OK {
			t.Fatal("error", int(e))
		}
		return d
	}
}

func TestP48BitsOfValue(t *testing.T) {
	ok := must(t)
	for _, f := range allForms() {
		for _, bits := range finite(f) {
			d := ok(Value(f, bits))
			want := bits
			if bits == 1<<(size(f)-1) {
				want = 0
			}
			back, there, e := Bits(f, d)
			if back != want || !there || e != api.OK {
				t.Errorf("Bits of Value(%v, %#x): %#x, %v, error %d", f, bits, back, there, int(e))
			}
			if again := ok(Value(f, back)); !sameFields(again, d) {
				t.Errorf("Value of Bits(%v, %s): %s", f, show(d), show(again))
			}
		}
	}
}

// Of Single and Double the order of numbers is Go's own.
func TestP48CmpIsTheOrderOfFloats(t *testing.T) {
	ok, r := must(t), source(11)
	edges := []float64{0, math.Copysign(0, -1), 1, -1, math.SmallestNonzeroFloat64, -math.SmallestNonzeroFloat64, math.MaxFloat64, -math.MaxFloat64, 0x1p-1022, 0x1.fffffffffffffp-1023}
	for range 200 {
		if x := math.Float64frombits(r.Uint64()); !math.IsNaN(x) && !math.IsInf(x, 0) {
			edges = append(edges, x, math.Nextafter(x, 0), -x)
		}
	}
	for i, x := range edges {
		for _, y := range edges[:i+1] {
			n, e := Cmp(ok(Value(form(11, 52), math.Float64bits(x))), ok(Value(form(11, 52), math.Float64bits(y))))
			if n != cmp.Compare(x, y) || e != api.OK {
				t.Errorf("Cmp of %g and %g: %d, error %d", x, y, n, int(e))
			}
		}
	}
	for _, f := range smallForms() {
		last := uint64(1)<<(f.Exp+f.Frac) - 1<<f.Frac
		for bits := uint64(1); bits < last; bits++ {
			n, e := Cmp(ok(Value(f, bits-1)), ok(Value(f, bits)))
			if n != -1 || e != api.OK {
				t.Errorf("%v: %#x is not above the one below it", f, bits)
			}
		}
	}
}

func alike(t *testing.T, law string, a, b api.Dyadic) {
	t.Helper()
	if !sameFields(a, b) || Check(a) != api.OK {
		t.Errorf("%s: %s is not %s", law, show(a), show(b))
	}
}

func TestP48SumsAndProducts(t *testing.T) {
	ok, r := must(t), source(12)
	for range 1000 {
		a, b, c := some(r, 4), some(r, 4), some(r, 4)
		alike(t, "a + b is b + a", ok(Add(a, b)), ok(Add(b, a)))
		alike(t, "a b is b a", ok(Mul(a, b)), ok(Mul(b, a)))
		alike(t, "brackets of a sum", ok(Add(ok(Add(a, b)), c)), ok(Add(a, ok(Add(b, c)))))
		alike(t, "brackets of a product", ok(Mul(ok(Mul(a, b)), c)), ok(Mul(a, ok(Mul(b, c)))))
		alike(t, "a product goes over a sum", ok(Mul(a, ok(Add(b, c)))), ok(Add(ok(Mul(a, b)), ok(Mul(a, c)))))
		alike(t, "a and its Neg", ok(Add(a, ok(Neg(a)))), api.Dyadic{})
		alike(t, "Neg of Neg", ok(Neg(ok(Neg(a)))), a)
		less := ok(Add(a, ok(Neg(b))))
		if n, e := Cmp(a, b); n != asInt(less).Sign() || e != api.OK {
			t.Errorf("Cmp(%s, %s): %d, error %d, and a less b is %s", show(a), show(b), n, int(e), show(less))
		}
	}
	for _, d := range ordered() {
		alike(t, "a and its Neg, at the ends", ok(Add(d, ok(Neg(d)))), api.Dyadic{})
	}
}

func TestP48OfAndRatio(t *testing.T) {
	r := source(13)
	for range 1000 {
		d := some(r, 4)
		x, e := Ratio(d)
		if e != api.OK {
			t.Fatal("error", int(e))
		}
		back, ok, e := Of(x)
		if !ok || e != api.OK || !sameFields(back, d) {
			t.Errorf("Of of Ratio(%s): %s, %v, error %d", show(d), show(back), ok, int(e))
		}
		x = fraction(new(big.Rat).SetFrac(someInt(r, 4), twoTo(r.IntN(100))))
		if d, ok, e = Of(x); !ok || e != api.OK {
			t.Fatal("no dyadic, error", int(e))
		}
		if again, e := Ratio(d); e != api.OK || !sameRatio(again, x) {
			t.Errorf("Ratio of Of: error %d, %s", int(e), show(d))
		}
	}
}
