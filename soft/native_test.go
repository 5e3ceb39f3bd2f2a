package soft

import (
	"math"
	"math/rand/v2"
	"testing"

	"numeral/api"
)

// What Go's own floats are, as bits; what is no number is The NaN.
func bits64(x float64) uint64 {
	if x != x {
		return theNaN(double)
	}
	return math.Float64bits(x)
}

func bits32(x float32) uint64 {
	if x != x {
		return theNaN(single)
	}
	return uint64(math.Float32bits(x))
}

func sameBits(t *testing.T, got told, want uint64, what string, f api.Form, operands ...uint64) {
	t.Helper()
	if got.bits != want || got.e != api.OK {
		t.Errorf("%s of %#x in %v: %#x, error %d; Go has %#x", what, operands, f, got.bits, int(got.e), want)
	}
}

func checkDouble(t *testing.T, a, b, c uint64) {
	t.Helper()
	x, y, z := math.Float64frombits(a), math.Float64frombits(b), math.Float64frombits(c)
	for _, n := range []struct {
		what string
		got  told
		want float64
	}{
		{"Add", tell(Add(double, a, b, api.Even)), x + y},
		{"Sub", tell(Sub(double, a, b, api.Even)), x - y},
		{"Mul", tell(Mul(double, a, b, api.Even)), x * y},
		{"Div", tell(Div(double, a, b, api.Even)), x / y},
		{"Sqrt", tell(Sqrt(double, a, api.Even)), math.Sqrt(x)},
		{"Fma", tell(Fma(double, a, b, c, api.Even)), math.FMA(x, y, z)},
		{"Whole, Even", tell(Whole(double, a, api.Even)), math.RoundToEven(x)},
		{"Whole, Away", tell(Whole(double, a, api.Away)), math.Round(x)},
		{"Whole, Zero", tell(Whole(double, a, api.Zero)), math.Trunc(x)},
		{"Whole, Up", tell(Whole(double, a, api.Up)), math.Ceil(x)},
		{"Whole, Down", tell(Whole(double, a, api.Down)), math.Floor(x)},
	} {
		sameBits(t, n.got, bits64(n.want), n.what, double, a, b, c)
	}
}

func checkSingle(t *testing.T, a, b uint64) {
	t.Helper()
	x, y := math.Float32frombits(uint32(a)), math.Float32frombits(uint32(b))
	// A root, and a whole number, of 53 bits, is rounded to 24 bits as if it were not rounded ahead of that.
	wide := float64(x)
	for _, n := range []struct {
		what string
		got  told
		want float32
	}{
		{"Add", tell(Add(single, a, b, api.Even)), x + y},
		{"Sub", tell(Sub(single, a, b, api.Even)), x - y},
		{"Mul", tell(Mul(single, a, b, api.Even)), x * y},
		{"Div", tell(Div(single, a, b, api.Even)), x / y},
		{"Sqrt", tell(Sqrt(single, a, api.Even)), float32(math.Sqrt(wide))},
		{"Whole, Even", tell(Whole(single, a, api.Even)), float32(math.RoundToEven(wide))},
		{"Whole, Away", tell(Whole(single, a, api.Away)), float32(math.Round(wide))},
		{"Whole, Zero", tell(Whole(single, a, api.Zero)), float32(math.Trunc(wide))},
		{"Whole, Up", tell(Whole(single, a, api.Up)), float32(math.Ceil(wide))},
		{"Whole, Down", tell(Whole(single, a, api.Down)), float32(math.Floor(wide))},
	} {
		sameBits(t, n.got, bits32(n.want), n.what, single, a, b)
	}
}

// anyBits are bits of all kinds: any at all, such as lie about 1, edges, and neighbours of these.
func anyBits(r *rand.Rand, f api.Form) uint64 {
	all := allEdges(f)
	switch r.IntN(5) {
	case 0:
		return all[r.IntN(len(all))]
	case 1:
		return signed(f, about(r, f), r.IntN(2) == 0)
	case 2:
		// Whole numbers, and halves.
		return signed(f, rounds(f, worthOfHalves(r), false, api.Even).bits, r.IntN(2) == 0)
	case 3:
		return some(r, f)
	}
	return r.Uint64() >> (63 - f.Exp - f.Frac)
}

func TestP79NativeDouble(t *testing.T) {
	for seed := range 8 {
		t.Run("", func(t *testing.T) {
			t.Parallel()
			r := source(uint64(790 + seed))
			for range 3000 {
				checkDouble(t, anyBits(r, double), anyBits(r, double), anyBits(r, double))
			}
		})
	}
	for _, a := range allEdges(double) {
		for _, b := range allEdges(double) {
			checkDouble(t, a, b, a)
			checkDouble(t, a, b, b)
		}
	}
}

// Operands whose product and c lie near together, so that most of it cancels.
func TestP79NativeFmaThatCancels(t *testing.T) {
	r := source(798)
	for range 8000 {
		x, y := math.Float64frombits(about(r, double)), math.Float64frombits(about(r, double))
		z := -x * y
		z = math.Float64frombits(math.Float64bits(z) + r.Uint64N(3) - 1)
		got := tell(Fma(double, bits64(x), bits64(y), bits64(z), api.Even))
		sameBits(t, got, bits64(math.FMA(x, y, z)), "Fma", double, bits64(x), bits64(y), bits64(z))
	}
}

func TestP79NativeSingle(t *testing.T) {
	for seed := range 8 {
		t.Run("", func(t *testing.T) {
			t.Parallel()
			r := source(uint64(780 + seed))
			for range 3000 {
				checkSingle(t, anyBits(r, single), anyBits(r, single))
			}
		})
	}
	for _, a := range allEdges(single) {
		for _, b := range allEdges(single) {
			checkSingle(t, a, b)
		}
	}
}
