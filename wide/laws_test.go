package wide

import (
	"errors"
	"math"
	"math/big"
	"math/rand/v2"
	"strconv"
	"testing"

	"numeral/api"
	"numeral/dec"
	"numeral/nat"
	"numeral/round"
)

// roundedBits is what chapter 5 rounds a decimal to by Even.
func roundedBits(t *testing.T, f api.Form, d api.Dec) uint64 {
	t.Helper()
	r, e := dec.Ratio(api.Dec{Digits: d.Digits})
	if e != api.OK {
		t.Fatalf("no fraction of %s: error %d", short(d), int(e))
	}
	if nought, _ := nat.Cmp(r.Num, api.Nat{}); nought != 0 {
		r.Neg = d.Neg
	}
	bits, _, e := round.Scaled(f, r, d.Exp, d.Neg, api.Even)
	if e != api.OK {
		t.Fatalf("%s is not rounded: error %d", short(d), int(e))
	}
	return bits
}

// parsedBits is what strconv reads; false, if the form is not Go's own.
func parsedBits(t *testing.T, f api.Form, d api.Dec) (uint64, bool) {
	t.Helper()
	size := map[api.Form]int{double: 64, single: 32}[f]
	if size == 0 {
		return 0, false
	}
	x, err := strconv.ParseFloat(text(d), size)
	if err != nil && !errors.Is(err, strconv.ErrRange) {
		t.Fatal(err)
	}
	if size == 32 {
		return uint64(math.Float32bits(float32(x))), true
	}
	return math.Float64bits(x), true
}

// fraction is what a float that is a number is worth, as a fraction of math/big; infinity as if exponents had no upper end.
func fraction(f api.Form, bits uint64) *big.Rat {
	w := worthOf(f, bits%signBit(f))
	x := new(big.Rat).SetInt(w.n)
	two := new(big.Rat).SetInt(up(big.NewInt(1), max(w.exp, -w.exp)))
	if w.exp < 0 {
		two.Inv(two)
	}
	if x.Mul(x, two); bits >= signBit(f) {
		x.Neg(x)
	}
	return x
}

// lies wants the decimal to lie from low to high, infinity being beyond all.
func lies(t *testing.T, f api.Form, d api.Dec, low, high uint64) {
	t.Helper()
	x, ok := new(big.Rat).SetString(text(d))
	if !ok {
		t.Fatalf("no fraction of %s", short(d))
	}
	if low%signBit(f) != infinite(f) && fraction(f, low).Cmp(x) > 0 {
		t.Errorf("%s lies below %#x of %v", short(d), low, f)
	}
	if high%signBit(f) != infinite(f) && fraction(f, high).Cmp(x) < 0 {
		t.Errorf("%s lies above %#x of %v", short(d), high, f)
	}
	if low == infinite(f) || high == infinite(f)+signBit(f) {
		t.Errorf("%s lies from %#x to %#x of %v", short(d), low, high, f)
	}
}

// follows is what the chapter says to follow, of one decimal.
func follows(t *testing.T, f api.Form, d api.Dec) {
	t.Helper()
	bits, pair := toldBits(t, f, d), toldBetween(t, f, d)
	if bits.sure {
		if want := roundedBits(t, f, d); bits.low != want {
			t.Errorf("Bits(%v, %s): %#x, but chapter 5 rounds to %#x", f, short(d), bits.low, want)
		}
		if want, ok := parsedBits(t, f, d); ok && bits.low != want {
			t.Errorf("Bits(%v, %s): %#x, but strconv reads %#x", f, short(d), bits.low, want)
		}
	}
	if pair.sure {
		lies(t, f, d, pair.low, pair.high)
	}
	if bits.sure && pair.sure && bits.low != pair.low && bits.low != pair.high {
		t.Errorf("%v, %s: Bits tells %#x, Between %#x and %#x", f, short(d), bits.low, pair.low, pair.high)
	}
	mirrored(t, f, d, bits, pair)
	if !bits.sure && bits != (owed{}) || !pair.sure && pair != (owed{}) {
		t.Errorf("%v, %s: not sure, but %#x, %#x and %#x", f, short(d), bits.low, pair.low, pair.high)
	}
}

// mirrored wants the decimal with the other sign to be sure where this one is, of the other sign's floats.
func mirrored(t *testing.T, f api.Form, d api.Dec, bits, pair owed) {
	t.Helper()
	sign := signBit(f)
	if bits.sure {
		bits.low, bits.high = bits.low^sign, bits.high^sign
	}
	if pair.sure {
		pair.low, pair.high = pair.high^sign, pair.low^sign
	}
	if got := toldBits(t, f, turned(d)); got != bits {
		t.Errorf("Bits(%v, %s): %#x, %v; by the other sign's it would be %#x, %v", f, short(turned(d)), got.low, got.sure, bits.low, bits.sure)
	}
	if got := toldBetween(t, f, turned(d)); got != pair {
		t.Errorf("Between(%v, %s): %#x, %#x, %v; by the other sign's it would be %#x, %#x, %v", f, short(turned(d)), got.low, got.high, got.sure, pair.low, pair.high, pair.sure)
	}
}

func TestP153SomeDecimals(t *testing.T) {
	r := source(5)
	for _, f := range someForms() {
		for range 700 {
			follows(t, f, some(r, f))
		}
		for range 200 {
			follows(t, f, anywhere(r))
		}
		follows(t, f, api.Dec{})
		follows(t, f, api.Dec{Neg: true})
	}
	for range 6000 {
		follows(t, double, some(r, double))
		follows(t, single, some(r, single))
	}
}

// Beside halves and beside floats is where something could go astray.
func TestP153AboutFloats(t *testing.T) {
	r := source(6)
	for _, f := range someForms() {
		inf := infinite(f)
		all := []uint64{0, 1, 1<<f.Frac - 1, 1 << f.Frac, inf - 2, inf - 1}
		for range 8 {
			all = append(all, r.Uint64N(inf))
		}
		for _, bits := range all {
			for _, w := range []worth{halfOf(f, bits), worthOf(f, bits+1)} {
				for _, d := range about(t, allDigits(t, w)) {
					follows(t, f, d)
				}
			}
		}
	}
}

// Both are sure of every decimal of at most 19 digits with k from 0 to 55, at halves and at floats, too.
func TestP153SureOfWholePowers(t *testing.T) {
	r := source(7)
	for k := range 56 {
		for _, f := range someForms() {
			for range 12 {
				sureOf(t, f, dc(digitsOf(r, 1+r.IntN(19)), k))
			}
			for _, digits := range []string{"1", "5", "9", "16777217", "9007199254740993", "9999999999999999999", "1000000000000000001", "4611686018427388416", "4611686018427387904"} {
				sureOf(t, f, dc(digits, k))
			}
		}
	}
	for _, f := range someForms() {
		for range 2000 {
			if d, ok := wholeHalf(t, r, f); ok {
				sureOf(t, f, d)
			}
		}
	}
}

func sureOf(t *testing.T, f api.Form, d api.Dec) {
	t.Helper()
	for _, d := range []api.Dec{d, turned(d)} {
		if !toldBits(t, f, d).sure {
			t.Errorf("Bits(%v, %s) is not sure", f, text(d))
		}
		if !toldBetween(t, f, d).sure {
			t.Errorf("Between(%v, %s) is not sure", f, text(d))
		}
	}
	follows(t, f, d)
}

// wholeHalf is a half of the last place that is a whole number of at most 19 digits, or a number beside it.
func wholeHalf(t *testing.T, r *rand.Rand, f api.Form) (api.Dec, bool) {
	t.Helper()
	w := halfOf(f, r.Uint64N(infinite(f)))
	if w.exp < 0 || w.exp+w.n.BitLen() > 63 {
		return api.Dec{}, false
	}
	n := up(w.n, w.exp)
	d := made(t, n.Add(n, big.NewInt(r.Int64N(3)-1)).String(), 0)
	return d, len(d.Digits) <= 19
}

// Nothing hangs on what was asked before.
func TestP151P152TheSameAgain(t *testing.T) {
	r := source(8)
	for range 1000 {
		f, g := someForms()[r.IntN(11)], someForms()[r.IntN(11)]
		d := some(r, f)
		bits, pair := toldBits(t, f, d), toldBetween(t, f, d)
		toldBits(t, g, some(r, g))
		toldBetween(t, g, anywhere(r))
		if toldBits(t, f, d) != bits || toldBetween(t, f, d) != pair {
			t.Errorf("%v, %s is told otherwise the second time", f, short(d))
		}
	}
}
