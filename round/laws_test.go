package round

import (
	"math/big"
	"testing"

	"numeral/api"
	"numeral/exact"
	"numeral/forms"
	"numeral/ratio"
)

// floats are those of both signs that are finite, of a small form all, of others some.
func floats(f api.Form) []uint64 {
	var all []uint64
	inf := infinite(f)
	step := inf/200 + 1
	for bits := uint64(0); bits < inf; bits += step {
		all = append(all, bits, bits+signBit(f))
	}
	for _, bits := range []uint64{1, 1<<f.Frac - 1, 1 << f.Frac, 1<<f.Frac + 1, inf - 1} {
		all = append(all, bits, bits+signBit(f))
	}
	return all
}

func lawForms() []api.Form {
	return append(smallForms(), form(5, 10), form(8, 7), form(8, 23), form(11, 52), form(11, 1), form(2, 52))
}

func TestP56FloatsRoundToThemselves(t *testing.T) {
	for _, f := range lawForms() {
		for _, bits := range floats(f) {
			d, e := exact.Value(f, bits)
			if e != api.OK {
				t.Fatal(int(e))
			}
			r, e := exact.Ratio(d)
			if e != api.OK {
				t.Fatal(int(e))
			}
			neg := bits >= signBit(f)
			for _, mode := range everyMode {
				own := told{bits: bits}
				if got := tell(Dyadic(f, d, neg, mode)); got != own {
					t.Errorf("%v, the float %#x as a dyadic, mode %d: %v", f, bits, mode, got)
				}
				if got := tell(Ratio(f, r, neg, mode)); got != own {
					t.Errorf("%v, the float %#x as a fraction, mode %d: %v", f, bits, mode, got)
				}
			}
		}
	}
}

// order is that of floats by their worth: noughts alike, infinities beyond all.
func order(t *testing.T, f api.Form, bits uint64) int64 {
	t.Helper()
	if class, e := forms.Class(f, bits); e != api.OK || class == api.ClassNaN {
		t.Fatalf("%v, %#x: no number", f, bits)
	}
	if bits >= signBit(f) {
		return -int64(bits - signBit(f))
	}
	return int64(bits)
}

// FlagInexact comes just with an answer that is not worth the number.
func checkInexact(t *testing.T, f api.Form, x api.Ratio, got told) {
	t.Helper()
	d, e := exact.Value(f, got.bits)
	same := false
	if e == api.OK {
		worth, _ := exact.Ratio(d)
		n, _ := ratio.Cmp(worth, x)
		same = n == 0
	}
	if same == (got.flags&inexact != 0) {
		t.Errorf("%v: %#x with the flags %d, is worth the number: %v", f, got.bits, got.flags, same)
	}
}

// Numbers one behind another: so do their floats come, and lie about them as the modes say.
func TestP57Order(t *testing.T) {
	for _, f := range lawForms() {
		step := times(worthOf(f, infinite(f)), frac(1, 151))
		if f.Exp < 5 {
			step = times(worthOf(f, 1), frac(1, 3))
		}
		for _, sign := range []int64{1, -1} {
			checkOrder(t, f, step, sign)
		}
	}
}

func checkOrder(t *testing.T, f api.Form, step *big.Rat, sign int64) {
	t.Helper()
	var before [5]int64
	for i := range int64(170) {
		x := times(step, frac(sign*i, 1))
		r := asRatio(x)
		var answer [5]told
		var place [5]int64
		for _, mode := range everyMode {
			answer[mode] = tell(Ratio(f, r, sign < 0, mode))
			place[mode] = order(t, f, answer[mode].bits)
			checkInexact(t, f, r, answer[mode])
			if i > 0 && (place[mode]-before[mode])*sign < 0 {
				t.Errorf("%v, mode %d: the float of %s comes ahead of one nearer to nought", f, mode, short(x))
			}
		}
		before = place
		low, high := place[api.Down], place[api.Up]
		between := low+1 == high
		if answer[api.Down].flags == 0 {
			between = low == high
		}
		nearer := low
		if sign < 0 {
			nearer = high
		}
		if !between || place[api.Zero] != nearer || place[api.Even] != low && place[api.Even] != high || place[api.Away] != low && place[api.Away] != high {
			t.Errorf("%v, %s: %v", f, short(x), answer)
		}
		checkSides(t, f, x, answer[api.Down].bits, answer[api.Up].bits)
	}
}

// checkSides wants the one float not above x and the other not below it.
func checkSides(t *testing.T, f api.Form, x *big.Rat, down, up uint64) {
	t.Helper()
	inf := infinite(f)
	worth := func(bits uint64) *big.Rat {
		if bits >= signBit(f) {
			return turned(worthOf(f, bits-signBit(f)))
		}
		return worthOf(f, bits)
	}
	if down == inf || down != inf+signBit(f) && worth(down).Cmp(x) > 0 {
		t.Errorf("%v: the float %#x is above %s", f, down, short(x))
	}
	if up == inf+signBit(f) || up != inf && worth(up).Cmp(x) < 0 {
		t.Errorf("%v: the float %#x is below %s", f, up, short(x))
	}
}

func TestP58Mirrored(t *testing.T) {
	mirrored := []uint8{api.Even: api.Even, api.Away: api.Away, api.Zero: api.Zero, api.Up: api.Down, api.Down: api.Up}
	r := source(9)
	for range 1000 {
		f := form(2+r.IntN(10), 1+r.IntN(52))
		n := r.IntN(21) - 10
		x := asRatio(some(r, leastExp(f)-4+r.IntN(bias(f)-leastExp(f)+8)))
		y, e := ratio.Neg(x)
		if e != api.OK {
			t.Fatal(int(e))
		}
		for _, mode := range everyMode {
			one, other := tell(Scaled(f, x, n, false, mode)), tell(Scaled(f, y, n, false, mirrored[mode]))
			if one.bits^signBit(f) != other.bits || one.flags != other.flags || one.e != api.OK || other.e != api.OK {
				t.Errorf("%v, mode %d: %v, turned %v", f, mode, one, other)
			}
		}
	}
}
