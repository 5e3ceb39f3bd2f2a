package exact

import (
	"math"
	"math/big"
	"testing"

	"numeral/api"
)

func checkValue(t *testing.T, f api.Form, bits uint64, want api.Dyadic) {
	t.Helper()
	got, e := Value(f, bits)
	if e != api.OK || !sameFields(got, want) {
		t.Errorf("Value(%v, %#x): %s, error %d; want %s", f, bits, show(got), int(e), show(want))
	}
}

func TestP42Value(t *testing.T) {
	for _, f := range allForms() {
		for _, bits := range finite(f) {
			n, exp := worthOf(f, bits)
			checkValue(t, f, bits, only(n, exp))
		}
	}
}

// What Go's own floats are worth, told by the library.
func TestP42ValueOfNativeFloats(t *testing.T) {
	r := source(4)
	for range 3000 {
		bits := r.Uint64()
		if x := math.Float64frombits(bits); !math.IsNaN(x) && !math.IsInf(x, 0) {
			checkValue(t, form(11, 52), bits, ofFloat(x))
		}
		low := r.Uint32()
		if x := float64(math.Float32frombits(low)); !math.IsNaN(x) && !math.IsInf(x, 0) {
			checkValue(t, form(8, 23), uint64(low), ofFloat(x))
		}
	}
	for _, x := range []float64{1, -1, 0.1, math.Pi, math.MaxFloat64, -math.MaxFloat64, math.SmallestNonzeroFloat64, -math.SmallestNonzeroFloat64, 0x1p-1022, 0x1.fffffffffffffp-1023, 0} {
		checkValue(t, form(11, 52), math.Float64bits(x), ofFloat(x))
	}
}

func ofFloat(x float64) api.Dyadic {
	f := new(big.Float).SetFloat64(x)
	exp := f.MantExp(nil) - 53
	n, _ := f.SetMantExp(f, -exp).Int(nil)
	return only(n, exp)
}

func TestP42ValueEdges(t *testing.T) {
	small, double := form(2, 1), form(11, 52)
	greatest := plus(twoTo(53), -1)
	for _, c := range []struct {
		f    api.Form
		bits uint64
		want api.Dyadic
	}{
		{small, 0, api.Dyadic{}}, {small, 8, api.Dyadic{}},
		{small, 1, dy(1, -1)}, {small, 9, dy(-1, -1)},
		{small, 2, dy(1, 0)}, {small, 3, dy(3, -1)}, {small, 4, dy(1, 1)},
		{small, 5, dy(3, 0)}, {small, 13, dy(-3, 0)},
		{double, 0, api.Dyadic{}}, {double, 1 << 63, api.Dyadic{}},
		{double, 1, dy(1, -1074)}, {double, 1<<63 | 1, dy(-1, -1074)},
		{double, 2, dy(1, -1073)}, {double, 3, dy(3, -1074)}, {double, 6, dy(3, -1073)},
		{double, 1<<52 - 1, great(plus(twoTo(52), -1), -1074)},
		{double, 1 << 52, dy(1, -1022)},
		{double, 1<<52 + 1, great(plus(twoTo(52), 1), -1074)},
		{double, 0x7fefffffffffffff, great(greatest, 971)},
		{double, 0xffefffffffffffff, great(turned(greatest), 971)},
		{form(11, 1), 1, dy(1, -1023)}, {form(2, 52), 1, dy(1, -52)},
	} {
		checkValue(t, c.f, c.bits, c.want)
	}
}

// Forms that may not be come first, then bits that are too many, then what is infinite or no number.
func TestP42ValueRefuses(t *testing.T) {
	for _, f := range wrongForms() {
		for _, bits := range []uint64{0, 1, 0x7c00, 0x7e00, 1 << 16, math.MaxUint64} {
			got, e := Value(f, bits)
			wants(t, "a wrong form", got, e, api.Dyadic{}, api.ErrForm)
		}
	}
	for _, f := range allForms() {
		last, whole := uint64(1)<<f.Exp-1, uint64(1)<<f.Frac-1
		for _, neg := range []bool{false, true} {
			for _, frac := range []uint64{0, 1, whole, whole / 2, whole/2 + 1} {
				bits := put(f, neg, last, frac)
				got, e := Value(f, bits)
				wants(t, "no finite number", got, e, api.Dyadic{}, api.ErrFinite)
				if size(f) == 64 {
					continue
				}
				for _, above := range []uint64{1 << size(f), 1 << 63} {
					got, e = Value(f, bits|above)
					wants(t, "too many bits of no finite number", got, e, api.Dyadic{}, api.ErrBits)
					got, e = Value(f, above|frac)
					wants(t, "too many bits", got, e, api.Dyadic{}, api.ErrBits)
				}
			}
		}
	}
}

func checkBits(t *testing.T, f api.Form, d api.Dyadic, want uint64, ok bool) {
	t.Helper()
	got, there, e := Bits(f, d)
	if e != api.OK || got != want || there != ok {
		t.Errorf("Bits(%v, %s): %#x, %v, error %d; want %#x, %v", f, show(d), got, there, int(e), want, ok)
	}
}

func TestP43BitsOfFloats(t *testing.T) {
	for _, f := range allForms() {
		for _, bits := range finite(f) {
			n, exp := worthOf(f, bits)
			if n.Sign() == 0 {
				bits = 0
			}
			checkBits(t, f, only(n, exp), bits, true)
		}
	}
}

// Of small forms all dyadics about their floats: those of the list are floats, all others are not.
func TestP43BitsOfAllAround(t *testing.T) {
	for _, f := range smallForms() {
		floats := map[string]uint64{}
		for _, bits := range finite(f) {
			if n, exp := worthOf(f, bits); n.Sign() != 0 {
				floats[show(only(n, exp))] = bits
			}
		}
		for n := int64(1); n < 1<<(f.Frac+2); n += 2 {
			for exp := leastExp(f) - 3; exp <= bias(f)+3; exp++ {
				for _, d := range []api.Dyadic{dy(n, exp), dy(-n, exp)} {
					bits, ok := floats[show(d)]
					checkBits(t, f, d, bits, ok)
				}
			}
		}
		checkBits(t, f, api.Dyadic{}, 0, true)
	}
}

// Just below the least float, just beyond the greatest, and a bit too long, of every form.
func TestP43BitsOfNoFloats(t *testing.T) {
	long := natOf(longest())
	for _, f := range allForms() {
		least, top := leastExp(f), bias(f)
		for _, none := range []api.Dyadic{
			dy(1, least-1), dy(3, least-1), great(plus(twoTo(f.Frac), 1), least-1), great(plus(twoTo(f.Frac+1), -1), least-1),
			dy(1, top+1), dy(3, top), great(plus(twoTo(f.Frac+2), -1), top-f.Frac-1), great(plus(twoTo(f.Frac+1), -1), top-f.Frac+1),
			great(plus(twoTo(f.Frac+1), 1), 0), great(plus(twoTo(f.Frac+1), 1), least), great(plus(twoTo(f.Frac+1), 1), top-f.Frac-1),
			dy(1, far), dy(1, -far), dy(5, far), dy(5, -far),
			great(plus(twoTo(64), 1), 0), great(plus(twoTo(64), 1), -64), great(plus(twoTo(80), 1), least),
			{Mant: long}, {Mant: long, Exp: far}, {Mant: long, Exp: -far}, {Mant: long, Exp: -maxBits}, {Mant: long, Exp: least}, {Mant: long, Exp: top + 1 - maxBits},
		} {
			checkBits(t, f, none, 0, false)
			none.Neg = true
			checkBits(t, f, none, 0, false)
		}
	}
}

func TestP43BitsEdges(t *testing.T) {
	small, double := form(2, 1), form(11, 52)
	for _, c := range []struct {
		f    api.Form
		d    api.Dyadic
		want uint64
	}{
		{small, api.Dyadic{}, 0}, {small, dy(1, -1), 1}, {small, dy(-1, -1), 9}, {small, dy(1, 0), 2}, {small, dy(3, 0), 5}, {small, dy(-3, 0), 13},
		{double, api.Dyadic{Mant: api.Nat{Limbs: []uint32{}}}, 0},
		{double, dy(1, -1074), 1}, {double, dy(-1, -1074), 1<<63 | 1}, {double, dy(1, -1022), 1 << 52},
		{double, great(plus(twoTo(52), -1), -1074), 1<<52 - 1},
		{double, great(plus(twoTo(52), 1), -1074), 1<<52 + 1},
		{double, great(plus(twoTo(53), -1), 971), 0x7fefffffffffffff},
		{double, great(turned(plus(twoTo(53), -1)), 971), 0xffefffffffffffff},
		{double, dy(1, 1023), 0x7fe0000000000000},
	} {
		checkBits(t, c.f, c.d, c.want, true)
	}
}

// A form that may not be comes ahead of a dyadic that may not be.
func TestP43BitsRefuses(t *testing.T) {
	refused := func(f api.Form, d api.Dyadic, want api.Errno) {
		t.Helper()
		if bits, ok, e := Bits(f, d); bits != 0 || ok || e != want {
			t.Errorf("Bits(%v, %s): %#x, %v, error %d; want error %d", f, show(d), bits, ok, int(e), int(want))
		}
	}
	for _, w := range wrongDyadics() {
		for _, f := range wrongForms() {
			refused(f, w.d, api.ErrForm)
		}
		for _, f := range []api.Form{form(2, 1), form(5, 10), form(11, 52)} {
			refused(f, w.d, w.e)
		}
	}
	for _, f := range wrongForms() {
		for _, d := range []api.Dyadic{{}, dy(1, 0), dy(1, far), great(longest(), 0)} {
			refused(f, d, api.ErrForm)
		}
	}
}
