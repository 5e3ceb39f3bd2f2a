package turn

import (
	"math"
	"testing"

	"numeral/api"
)

// wider are all forms that have at least as many bits in both fields.
func wider(f api.Form) []api.Form {
	var all []api.Form
	for _, g := range allForms() {
		if g.Exp >= f.Exp && g.Frac >= f.Frac {
			all = append(all, g)
		}
	}
	return all
}

// checkThereAndBack turns a number into a form that has it, and back by every mode.
func checkThereAndBack(t *testing.T, f, g api.Form, bits uint64) {
	t.Helper()
	for _, mode := range everyMode {
		there := tell(To(f, g, bits, mode))
		if there.e != api.OK || there.flags != 0 || isNeg(f, bits) != isNeg(g, there.bits) {
			t.Errorf("To(%v, %v, %#x, mode %d): %v", f, g, bits, mode, there)
		}
		if isInf(f, bits) != isInf(g, there.bits) || !isInf(f, bits) && worth(f, bits).Cmp(worth(g, there.bits)) != 0 {
			t.Errorf("To(%v, %v, %#x, mode %d): %#x is not worth as much", f, g, bits, mode, there.bits)
		}
		for _, other := range everyMode {
			if back := tell(To(g, f, there.bits, other)); back != (told{bits: bits}) {
				t.Errorf("To(%v, %v, %#x, mode %d), of %#x: %v", g, f, there.bits, other, bits, back)
			}
		}
	}
}

func TestP88ThereAndBackOfSmallForms(t *testing.T) {
	t.Parallel()
	eachForm(t, []api.Form{least, form(2, 2), form(3, 1), form(3, 2), form(3, 3)}, func(t *testing.T, f api.Form) {
		for _, g := range []api.Form{f, form(f.Exp+1, f.Frac), form(f.Exp, f.Frac+1), half, single, double, form(f.Exp, 52), form(11, f.Frac)} {
			for bits := range 2 * minus(f) {
				if !isNaN(f, bits) {
					checkThereAndBack(t, f, g, bits)
				}
			}
		}
	})
}

func TestP88ThereAndBackOfAnyForm(t *testing.T) {
	t.Parallel()
	eachForm(t, edgeForms(), func(t *testing.T, f api.Form) {
		r := source(uint64(88*f.Exp + f.Frac))
		all := wider(f)
		for _, bits := range append(edges(f), infinity(f), infinity(f)+minus(f)) {
			checkThereAndBack(t, f, double, bits)
			checkThereAndBack(t, f, all[r.IntN(len(all))], bits)
		}
		for range 100 {
			checkThereAndBack(t, f, all[r.IntN(len(all))], some(r, f))
		}
	})
}

func TestP88AllHalvesThereAndBack(t *testing.T) {
	t.Parallel()
	for _, g := range []api.Form{single, double, form(5, 11), form(6, 10)} {
		for bits := range 2 * minus(half) {
			if isNaN(half, bits) {
				continue
			}
			there := tell(To(half, g, bits, api.Even))
			if back := tell(To(g, half, there.bits, api.Down)); there.flags != 0 || back != (told{bits: bits}) {
				t.Errorf("Half %#x to %v: %v, and back: %v", bits, g, there, back)
			}
		}
	}
}

// Bit by bit, so that what is no number is The NaN on both sides.
func TestP88ToSingleIsNarrow(t *testing.T) {
	for _, bits := range narrowing() {
		v := math.Float64frombits(bits)
		got, _, e := To(double, single, bits, api.Even)
		if want := Bits(Narrow(v)); got != want || e != api.OK {
			t.Errorf("To(Double, Single, %v): %#x, error %d; Narrow has %#x", v, got, int(e), want)
		}
		if want := native(float32(v), single); got != want {
			t.Errorf("To(Double, Single, %v): %#x; Go has %#x", v, got, want)
		}
	}
}

// checkCutOfNear is for a number that the form has.
func checkCutOfNear[F Float, W Whole](t *testing.T, n W) {
	t.Helper()
	if got, has := Cut[F, W](Near[F](n)); got != n || !has {
		t.Errorf("Cut of Near of %v: %v, %v", n, got, has)
	}
}

// kept are the numbers up to 2 to the power of n, at both ends and some between.
func kept(n int) []int64 {
	top := int64(1) << n
	all := []int64{0, 1, 2, 3, 127, 128, 255, 256, 1<<16 - 1, 1 << 16, top - 3, top - 2, top - 1, top}
	r := source(uint64(n))
	for range 2000 {
		all = append(all, r.Int64N(top+1)>>r.IntN(n))
	}
	return all
}

func TestP89CutOfNear(t *testing.T) {
	for _, n := range kept(24) {
		for _, m := range []int64{n, -n} {
			checkCutOfNear[float32](t, m)
			checkCutOfNear[float32](t, int(m))
			checkCutOfNear[float32](t, int32(m))
			checkCutOfNear[ownSingle](t, ownInt64(m))
			checkCutOfNear[float32](t, int16(m))
			checkCutOfNear[float32](t, int8(m))
		}
		checkCutOfNear[float32](t, uint64(n))
		checkCutOfNear[float32](t, uint(n))
		checkCutOfNear[ownSingle](t, ownUint32(n))
		checkCutOfNear[float32](t, uint16(n))
		checkCutOfNear[float32](t, uint8(n))
	}
	for _, n := range kept(53) {
		for _, m := range []int64{n, -n} {
			checkCutOfNear[float64](t, m)
			checkCutOfNear[float64](t, int(m))
			checkCutOfNear[ownDouble](t, ownInt(m))
			checkCutOfNear[float64](t, int32(m))
		}
		checkCutOfNear[float64](t, uint64(n))
		checkCutOfNear[ownDouble](t, ownUint64(n))
		checkCutOfNear[float64](t, uint32(n))
	}
}

func TestP89IntOfFromInt(t *testing.T) {
	t.Parallel()
	eachForm(t, append(edgeForms(), smallForms()...), func(t *testing.T, f api.Form) {
		kept := 0
		for _, n := range wholes() {
			for _, mode := range everyMode {
				there := tell(FromInt(f, n, mode))
				if there.flags != 0 {
					continue
				}
				kept++
				for _, other := range everyMode {
					if back := tellInt(Int(f, there.bits, 64, other)); back != (toldInt{n: n}) {
						t.Errorf("Int(%v, %#x, 64, mode %d), of %d: %v", f, there.bits, other, n, back)
					}
				}
			}
		}
		if kept == 0 {
			t.Errorf("%v has none of the numbers", f)
		}
	})
}

// The same arguments have the same answers, whatever was asked between.
func TestNothingIsKept(t *testing.T) {
	r := source(99)
	var all []uint64
	var answers []told
	for range 300 {
		bits := anyBits(r, double)
		all, answers = append(all, bits), append(answers, tell(To(double, half, bits, api.Up)))
	}
	for i := len(all) - 1; i >= 0; i-- {
		if got := tell(To(double, half, all[i], api.Up)); got != answers[i] {
			t.Errorf("To(Double, Half, %#x): %v at first, then %v", all[i], answers[i], got)
		}
	}
}
