package forms

import (
	"math"
	"testing"

	"numeral/api"
)

func TestP36JoinOfSplit(t *testing.T) {
	for _, f := range allForms() {
		for _, bits := range append(everyBits(f), mixed(f, 200)...) {
			p, e := Split(f, bits)
			if e != api.OK {
				t.Fatalf("Split(%v, %#x): error %d", f, bits, int(e))
			}
			if got, e := Join(f, p); got != bits || e != api.OK {
				t.Errorf("Join of Split(%v, %#x) = %#x, error %d", f, bits, got, int(e))
			}
		}
	}
}

func TestP36SplitOfJoin(t *testing.T) {
	for _, f := range smallForms() {
		for exp := range 1 << f.Exp {
			for frac := range uint64(1) << f.Frac {
				for _, neg := range []bool{false, true} {
					want := api.Parts{Neg: neg, Exp: exp, Frac: frac}
					bits, e := Join(f, want)
					if e != api.OK {
						t.Fatalf("Join(%v, %v): error %d", f, want, int(e))
					}
					if p, e := Split(f, bits); p != want || e != api.OK {
						t.Errorf("Split of Join(%v, %v) = %v, error %d", f, want, p, int(e))
					}
				}
			}
		}
	}
}

// A form's floats of one sign, gone through from the least bits on, go through the classes once, each of them as large as its fields say.
func TestP36ClassesInTheirOrder(t *testing.T) {
	for _, f := range smallForms() {
		half := uint64(1) << (size(f) - 1)
		for _, from := range []uint64{0, half} {
			var count [6]uint64
			last := api.ClassZero
			for bits := from; bits < from+half; bits++ {
				c, e := Class(f, bits)
				if e != api.OK || c < last || c > api.ClassNaN {
					t.Fatalf("Class(%v, %#x) = %d behind %d, error %d", f, bits, c, last, int(e))
				}
				last = c
				count[c]++
			}
			frac := uint64(1) << f.Frac
			want := [6]uint64{0, 1, frac - 1, (1<<f.Exp - 2) * frac, 1, frac - 1}
			if count != want {
				t.Errorf("classes of %v from %#x on: %v, want %v", f, from, count, want)
			}
		}
	}
}

func TestP36KnownOnesInTheirClasses(t *testing.T) {
	classes := map[string]uint8{"Nought": api.ClassZero, "Inf": api.ClassInf, "Greatest": api.ClassNormal, "Normal": api.ClassNormal, "Least": api.ClassSmall}
	for _, f := range allForms() {
		for _, neg := range []bool{false, true} {
			for _, c := range knownCalls() {
				bits, _ := c.do(f, neg)
				if got, e := Class(f, bits); got != classes[c.name] || e != api.OK {
					t.Errorf("Class of %s of %v: %d, error %d", c.name, f, got, int(e))
				}
			}
			bits, _ := NaN(f, neg, 0)
			if got, e := Class(f, bits); got != api.ClassNaN || e != api.OK {
				t.Errorf("Class of NaN of %v: %d, error %d", f, got, int(e))
			}
		}
	}
}

// native is a class by Go's own comparisons.
func native(x, greatest, normal float64) uint8 {
	size := math.Abs(x)
	switch {
	case x != x:
		return api.ClassNaN
	case size > greatest:
		return api.ClassInf
	case size >= normal:
		return api.ClassNormal
	case x != 0:
		return api.ClassSmall
	}
	return api.ClassZero
}

func TestP36ClassesOfDoubleAreGos(t *testing.T) {
	f := Double()
	for _, bits := range append(edges(f), mixed(f, 20000)...) {
		want := native(math.Float64frombits(bits), math.MaxFloat64, 0x1p-1022)
		if c, e := Class(f, bits); c != want || e != api.OK {
			t.Errorf("Class(Double, %#x) = %d, error %d; Go: %d", bits, c, int(e), want)
		}
	}
}

func TestP36ClassesOfSingleAreGos(t *testing.T) {
	f := Single()
	for _, bits := range append(edges(f), mixed(f, 20000)...) {
		want := native(float64(math.Float32frombits(uint32(bits))), math.MaxFloat32, 0x1p-126)
		if c, e := Class(f, bits); c != want || e != api.OK {
			t.Errorf("Class(Single, %#x) = %d, error %d; Go: %d", bits, c, int(e), want)
		}
	}
}

func TestP36KnownOnesAreGos(t *testing.T) {
	minus := math.Copysign(0, -1)
	want64 := map[string][2]float64{
		"Nought":   {0, minus},
		"Inf":      {math.Inf(1), math.Inf(-1)},
		"Greatest": {math.MaxFloat64, -math.MaxFloat64},
		"Normal":   {0x1p-1022, -0x1p-1022},
		"Least":    {math.SmallestNonzeroFloat64, -math.SmallestNonzeroFloat64},
	}
	want32 := map[string][2]float64{
		"Nought":   {0, minus},
		"Inf":      {math.Inf(1), math.Inf(-1)},
		"Greatest": {math.MaxFloat32, -math.MaxFloat32},
		"Normal":   {0x1p-126, -0x1p-126},
		"Least":    {math.SmallestNonzeroFloat32, -math.SmallestNonzeroFloat32},
	}
	for _, c := range knownCalls() {
		for i, neg := range []bool{false, true} {
			if bits, e := c.do(Double(), neg); bits != math.Float64bits(want64[c.name][i]) || e != api.OK {
				t.Errorf("%s(Double, %v) = %#x, error %d", c.name, neg, bits, int(e))
			}
			if bits, e := c.do(Single(), neg); bits != uint64(math.Float32bits(float32(want32[c.name][i]))) || e != api.OK {
				t.Errorf("%s(Single, %v) = %#x, error %d", c.name, neg, bits, int(e))
			}
		}
	}
}

// What is no number in Go is so by every payload, quiet or not.
func TestP36NaNsAreGos(t *testing.T) {
	for _, payload := range payloads(Double()) {
		bits, e := NaN(Double(), true, payload)
		if x := math.Float64frombits(bits); x == x || e != api.OK {
			t.Errorf("NaN(Double, yes, %d) = %#x is a number, error %d", payload, bits, int(e))
		}
	}
	for _, payload := range payloads(Single()) {
		bits, e := NaN(Single(), false, payload)
		if x := math.Float32frombits(uint32(bits)); x == x || e != api.OK {
			t.Errorf("NaN(Single, no, %d) = %#x is a number, error %d", payload, bits, int(e))
		}
	}
}
