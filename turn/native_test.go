package turn

import (
	"math"
	"math/rand/v2"
	"testing"

	"numeral/api"
)

func TestP84Form(t *testing.T) {
	for _, v := range []float64{0, math.Copysign(0, -1), 1, -1, 1<<24 + 1, 0.1, 1e300, 5e-324, math.Inf(1), math.Inf(-1), math.NaN()} {
		if f := Form(float32(v)); f != single {
			t.Errorf("Form of %v as a float32: %v", v, f)
		}
		if f := Form(ownSingle(v)); f != single {
			t.Errorf("Form of %v as an own float32: %v", v, f)
		}
		if f := Form(v); f != double {
			t.Errorf("Form of %v as a float64: %v", v, f)
		}
		if f := Form(ownDouble(v)); f != double {
			t.Errorf("Form of %v as an own float64: %v", v, f)
		}
	}
}

// anyBits are bits of all kinds.
func anyBits(r *rand.Rand, f api.Form) uint64 {
	all := allEdges(f)
	switch r.IntN(3) {
	case 0:
		return all[r.IntN(len(all))]
	case 1:
		return some(r, f)
	}
	return r.Uint64() >> (63 - f.Exp - f.Frac)
}

// bitsOf are some of all kinds, and all edges.
func bitsOf(f api.Form, seed uint64) []uint64 {
	all := allEdges(f)
	r := source(seed)
	for range 3000 {
		all = append(all, anyBits(r, f))
	}
	return all
}

// quieted are the bits, or those of The NaN for what is no number.
func quieted(f api.Form, bits uint64) uint64 {
	if isNaN(f, bits) {
		return theNaN(f)
	}
	return bits
}

func TestP84Bits(t *testing.T) {
	for _, bits := range bitsOf(single, 84) {
		v, want := math.Float32frombits(uint32(bits)), quieted(single, bits)
		if got := Bits(v); got != want {
			t.Errorf("Bits of %v, %#x, as a float32: %#x", v, bits, got)
		}
		if got := Bits(ownSingle(v)); got != want {
			t.Errorf("Bits of %v, %#x, as an own float32: %#x", v, bits, got)
		}
	}
	for _, bits := range bitsOf(double, 85) {
		v, want := math.Float64frombits(bits), quieted(double, bits)
		if got := Bits(v); got != want {
			t.Errorf("Bits of %v, %#x, as a float64: %#x", v, bits, got)
		}
		if got := Bits(ownDouble(v)); got != want {
			t.Errorf("Bits of %v, %#x, as an own float64: %#x", v, bits, got)
		}
	}
}

// checkSame wants of two floats, by their bits, what the document's word 'the same' says.
func checkSame[T Float](t *testing.T, f api.Form, v func(bits uint64) T, a, b uint64) {
	t.Helper()
	want := a == b || isNaN(f, a) && isNaN(f, b)
	if got := Same(v(a), v(b)); got != want {
		t.Errorf("Same of %#x and %#x in %v: %v", a, b, f, got)
	}
}

func TestP84Same(t *testing.T) {
	singles := func(bits uint64) float32 { return math.Float32frombits(uint32(bits)) }
	ownSingles := func(bits uint64) ownSingle { return ownSingle(singles(bits)) }
	ownDoubles := func(bits uint64) ownDouble { return ownDouble(math.Float64frombits(bits)) }
	for _, a := range allEdges(single) {
		for _, b := range allEdges(single) {
			checkSame(t, single, singles, a, b)
			checkSame(t, single, ownSingles, a, b)
		}
	}
	for _, a := range allEdges(double) {
		for _, b := range allEdges(double) {
			checkSame(t, double, math.Float64frombits, a, b)
			checkSame(t, double, ownDoubles, a, b)
		}
	}
	for _, a := range bitsOf(double, 86) {
		checkSame(t, double, math.Float64frombits, a, a)
		checkSame(t, double, math.Float64frombits, a, a^1)
		checkSame(t, double, math.Float64frombits, a, a^minus(double))
	}
}

// checkFrom wants what To answers by Even, as a native float of a type of the form g.
func checkFrom[T Float](t *testing.T, f, g api.Form, bits uint64) {
	t.Helper()
	v, e := From[T](f, bits)
	if want := toWant(f, g, bits, api.Even).bits; e != api.OK || isNaN(f, bits) != (v != v) || native(v, g) != want {
		t.Errorf("From(%v, %#x) in %v: %v, error %d; want %#x", f, bits, g, v, int(e), want)
	}
}

// native is a float's bits by Go's own calls; The NaN's for what is no number.
func native[T Float](v T, f api.Form) uint64 {
	if f == single {
		return quieted(single, uint64(math.Float32bits(float32(v))))
	}
	return quieted(double, math.Float64bits(float64(v)))
}

func checkEveryFrom(t *testing.T, f api.Form, bits uint64) {
	t.Helper()
	checkFrom[float32](t, f, single, bits)
	checkFrom[ownSingle](t, f, single, bits)
	checkFrom[float64](t, f, double, bits)
	checkFrom[ownDouble](t, f, double, bits)
}

func TestP85FromSmallForms(t *testing.T) {
	t.Parallel()
	eachForm(t, append(smallForms(), half, brain), func(t *testing.T, f api.Form) {
		for bits := range 2 * minus(f) {
			checkEveryFrom(t, f, bits)
		}
	})
}

func TestP85FromAnyForm(t *testing.T) {
	t.Parallel()
	r := source(87)
	for _, f := range allForms() {
		for _, bits := range allEdges(f) {
			checkEveryFrom(t, f, bits)
		}
		for range 20 {
			checkEveryFrom(t, f, anyBits(r, f))
		}
	}
}

// The native float comes back as it was, and by Go's own conversion in the other form.
func TestP85FromNativeForms(t *testing.T) {
	for _, bits := range bitsOf(double, 88) {
		v := math.Float64frombits(bits)
		if got, e := From[float64](double, bits); !same64(got, v) || e != api.OK {
			t.Errorf("From[float64](Double, %#x): %v, error %d", bits, got, int(e))
		}
		if got, e := From[float32](double, bits); !same32(got, float32(v)) || e != api.OK {
			t.Errorf("From[float32](Double, %#x): %v, error %d; Go has %v", bits, got, int(e), float32(v))
		}
	}
	for _, bits := range bitsOf(single, 89) {
		v := math.Float32frombits(uint32(bits))
		if got, e := From[float32](single, bits); !same32(got, v) || e != api.OK {
			t.Errorf("From[float32](Single, %#x): %v, error %d", bits, got, int(e))
		}
		if got, e := From[float64](single, bits); !same64(got, float64(v)) || e != api.OK {
			t.Errorf("From[float64](Single, %#x): %v, error %d; Go has %v", bits, got, int(e), float64(v))
		}
	}
}

func same64(a, b float64) bool { return native(a, double) == native(b, double) }

func same32(a, b float32) bool { return native(a, single) == native(b, single) }

// narrowing are doubles of all kinds, and those at and beside the halves between two Singles.
func narrowing() []uint64 {
	all := bitsOf(double, 90)
	r := source(91)
	places := []uint64{0, 1, 2, normal(single) - 1, normal(single), one(single), greatest(single) - 1, greatest(single)}
	for range 2000 {
		places = append(places, r.Uint64N(infinity(single)))
	}
	for _, bits := range places {
		low, high := worth(single, bits), worth(single, bits+1)
		all = append(all, about(double, halfway(low, high))...)
		all = append(all, about(double, low)...)
	}
	return all
}

func TestP86Narrow(t *testing.T) {
	for _, bits := range narrowing() {
		v := math.Float64frombits(bits)
		got := Narrow(v)
		if !same32(got, float32(v)) {
			t.Errorf("Narrow(%v): %v; Go has %v", v, got, float32(v))
		}
		if want := toWant(double, single, bits, api.Even).bits; native(got, single) != want {
			t.Errorf("Narrow(%v): %v, want %#x", v, got, want)
		}
	}
	for _, v := range []float64{1e39, math.Inf(1), math.MaxFloat64} {
		if got := Narrow(v); !math.IsInf(float64(got), 1) {
			t.Errorf("Narrow(%v): %v", v, got)
		}
		if got := Narrow(-v); !math.IsInf(float64(got), -1) {
			t.Errorf("Narrow(%v): %v", -v, got)
		}
	}
	if got := Narrow(math.Copysign(0, -1)); math.Float32bits(got) != 1<<31 {
		t.Errorf("Narrow of minus nought: %v", got)
	}
	if got := Narrow(math.NaN()); got == got {
		t.Errorf("Narrow of what is no number: %v", got)
	}
}

func TestP86Widen(t *testing.T) {
	for _, bits := range bitsOf(single, 92) {
		v := math.Float32frombits(uint32(bits))
		got := Widen(v)
		if !same64(got, float64(v)) {
			t.Errorf("Widen(%v): %v; Go has %v", v, got, float64(v))
		}
		if want := toWant(single, double, bits, api.Even); native(got, double) != want.bits || want.flags&inexact != 0 {
			t.Errorf("Widen(%v): %v, want %#x", v, got, want.bits)
		}
		if back := Narrow(got); !same32(back, v) {
			t.Errorf("Narrow of Widen of %v: %v", v, back)
		}
	}
}
