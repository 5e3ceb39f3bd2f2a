package turn

import (
	"math"
	"math/big"
	"math/bits"
	"testing"

	"numeral/api"
)

// whole is a kind of native whole numbers, written out by hand, so that it does not hang on how the program finds it out.
type whole struct {
	width    int
	unsigned bool
}

// lowest and highest are the ends of a kind of whole numbers.
func (k whole) lowest() *big.Int {
	if k.unsigned {
		return big.NewInt(0)
	}
	low, _ := ends(k.width)
	return low
}

func (k whole) highest() *big.Int {
	if k.unsigned {
		_, high := ends(k.width + 1)
		return high
	}
	_, high := ends(k.width)
	return high
}

func asBig[W Whole](n W, k whole) *big.Int {
	if k.unsigned {
		return new(big.Int).SetUint64(uint64(n))
	}
	return big.NewInt(int64(n))
}

// checkCut wants v without what stands behind its point, if the kind has it.
func checkCut[F Float, W Whole](t *testing.T, k whole, v F) {
	t.Helper()
	got, has := Cut[F, W](v)
	x := float64(v)
	if x != x || math.IsInf(x, 0) {
		if got != 0 || has {
			t.Errorf("Cut(%v) in %v: %v, %v", v, k, got, has)
		}
		return
	}
	want, _ := wholeOf(worth(double, math.Float64bits(x)), api.Zero)
	owed := want.Cmp(k.lowest()) >= 0 && want.Cmp(k.highest()) <= 0
	if !owed {
		want = big.NewInt(0)
	}
	if has != owed || asBig(got, k).Cmp(want) != 0 {
		t.Errorf("Cut(%v) in %v: %v, %v; want %v, %v", v, k, got, has, want, owed)
	}
}

// cutting are floats at the ends of all kinds and one beyond, with what may stand behind the point, and the doubles beside them; and some of all sizes.
func cutting() []float64 {
	all := []float64{0, 0.5, 0.9, 1, 1.5, 2.5, 5e-324, math.SmallestNonzeroFloat32, math.MaxFloat32, math.MaxFloat64, math.Inf(1), math.NaN(), 0x1p23 + 0.5, 0x1p52 + 0.5, 1<<24 + 1, 1<<53 - 1}
	for _, width := range []int{7, 8, 15, 16, 31, 32, 63, 64} {
		p := math.Ldexp(1, width)
		for _, x := range []float64{p - 1, p, p + 1, p + 2} {
			all = append(all, x-0.9, x-0.5, x-0.1, x, x+0.1, x+0.5, x+0.9, math.Nextafter(x, 0), math.Nextafter(x, 2*x), float64(math.Nextafter32(float32(x), 0)), float64(math.Nextafter32(float32(x), float32(2*x))))
		}
	}
	r := source(870)
	for range 500 {
		all = append(all, math.Ldexp(float64(r.Uint64()), -r.IntN(70)+3))
	}
	for _, bits := range allEdges(double) {
		all = append(all, math.Float64frombits(bits))
	}
	for _, bits := range allEdges(single) {
		all = append(all, float64(math.Float32frombits(uint32(bits))))
	}
	for _, x := range all {
		all = append(all, -x)
	}
	return all
}

// checkKind goes through all floats of every type, into one kind and a type of one's own of it.
func checkKind[W, Own Whole](t *testing.T, k whole) {
	t.Helper()
	for _, v := range cutting() {
		checkCut[float64, W](t, k, v)
		checkCut[float64, Own](t, k, v)
		checkCut[ownDouble, W](t, k, ownDouble(v))
		checkCut[float32, W](t, k, float32(v))
		checkCut[float32, Own](t, k, float32(v))
		checkCut[ownSingle, Own](t, k, ownSingle(v))
	}
}

func TestP87Cut(t *testing.T) {
	checkKind[int, ownInt](t, whole{width: bits.UintSize})
	checkKind[int8, ownInt8](t, whole{width: 8})
	checkKind[int16, ownInt16](t, whole{width: 16})
	checkKind[int32, ownInt32](t, whole{width: 32})
	checkKind[int64, ownInt64](t, whole{width: 64})
	checkKind[uint, ownUint](t, whole{bits.UintSize, true})
	checkKind[uint8, ownUint8](t, whole{8, true})
	checkKind[uint16, ownUint16](t, whole{16, true})
	checkKind[uint32, ownUint32](t, whole{32, true})
	checkKind[uint64, ownUint64](t, whole{64, true})
}

// 2^63 and 2^64 themselves, what lies just below them, and what is above -1 as a number without a sign.
func TestP87CutAtTheEnds(t *testing.T) {
	if n, has := Cut[float64, int64](0x1p63); n != 0 || has {
		t.Error("2^63 as int64:", n, has)
	}
	if n, has := Cut[float64, int64](-0x1p63); n != math.MinInt64 || !has {
		t.Error("-2^63 as int64:", n, has)
	}
	if n, has := Cut[float64, uint64](0x1p63); n != 1<<63 || !has {
		t.Error("2^63 as uint64:", n, has)
	}
	if n, has := Cut[float64, uint64](0x1p64); n != 0 || has {
		t.Error("2^64 as uint64:", n, has)
	}
	if n, has := Cut[float64, uint64](0x1p64 - 0x1p11); n != math.MaxUint64-2047 || !has {
		t.Error("what is below 2^64 as uint64:", n, has)
	}
	if n, has := Cut[float32, uint64](0x1p64 - 0x1p40); n != math.MaxUint64-(1<<40-1) || !has {
		t.Error("the float32 below 2^64 as uint64:", n, has)
	}
	if n, has := Cut[float64, int64](0x1p63 - 0x1p10); n != math.MaxInt64-1023 || !has {
		t.Error("what is below 2^63 as int64:", n, has)
	}
	for _, v := range []float64{-0.9, -0.5, -5e-324, math.Copysign(0, -1), math.Nextafter(-1, 0)} {
		if n, has := Cut[float64, uint64](v); n != 0 || !has {
			t.Errorf("%v as uint64: %v, %v", v, n, has)
		}
		if n, has := Cut[float64, uint8](v); n != 0 || !has {
			t.Errorf("%v as uint8: %v, %v", v, n, has)
		}
	}
	if n, has := Cut[float64, uint64](-1); n != 0 || has {
		t.Error("-1 as uint64:", n, has)
	}
}

// checkNear wants the float to which n rounds by Even.
func checkNear[F Float, W Whole](t *testing.T, f api.Form, k whole, n W) {
	t.Helper()
	want := rounds(f, new(big.Rat).SetInt(asBig(n, k)), false, api.Even).bits
	if got := Near[F](n); native(got, f) != want {
		t.Errorf("Near(%v) in %v, of %v: %v, %#x; want %#x", n, f, k, got, native(got, f), want)
	}
}

// nearing are numbers of up to 64 bits, which the kinds cut to their widths: at the ends, at the powers of two, at and beside halves between two floats, and some of all sizes.
func nearing() []uint64 {
	all := []uint64{0, math.MaxUint64, math.MaxUint64 - 1, math.MaxInt64, 1 << 63, 1<<63 + 1}
	for shift := range 64 {
		p := uint64(1) << shift
		all = append(all, p-1, p, p+1, p+p/2, -p)
		for _, frac := range []int{23, 52} {
			if shift > frac {
				// The half of a last place of a float with its first bit here.
				h := p >> (frac + 1)
				for _, odd := range []uint64{1, 3, 5} {
					all = append(all, p+odd*h-1, p+odd*h, p+odd*h+1, -(p + odd*h), p+(p-h)-1, p+(p-h), p+(p-h)+1)
				}
			}
		}
	}
	r := source(871)
	for range 500 {
		n := r.Uint64() >> r.IntN(64)
		all = append(all, n, -n)
	}
	return all
}

func checkNearOf[W, Own Whole](t *testing.T, k whole) {
	t.Helper()
	for _, n := range nearing() {
		checkNear[float32](t, single, k, W(n))
		checkNear[float64](t, double, k, W(n))
		checkNear[ownSingle](t, single, k, W(n))
		checkNear[ownDouble](t, double, k, Own(n))
		checkNear[float32](t, single, k, Own(n))
	}
}

func TestP87Near(t *testing.T) {
	checkNearOf[int, ownInt](t, whole{width: bits.UintSize})
	checkNearOf[int8, ownInt8](t, whole{width: 8})
	checkNearOf[int16, ownInt16](t, whole{width: 16})
	checkNearOf[int32, ownInt32](t, whole{width: 32})
	checkNearOf[int64, ownInt64](t, whole{width: 64})
	checkNearOf[uint, ownUint](t, whole{bits.UintSize, true})
	checkNearOf[uint8, ownUint8](t, whole{8, true})
	checkNearOf[uint16, ownUint16](t, whole{16, true})
	checkNearOf[uint32, ownUint32](t, whole{32, true})
	checkNearOf[uint64, ownUint64](t, whole{64, true})
}
