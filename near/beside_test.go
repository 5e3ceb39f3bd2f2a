package near

import (
	"math"
	"testing"

	"numeral/api"
)

// P6.1, in all floats of the small forms: the neighbour is the one that is next by worth.
func TestP61UpAndDownInSmallForms(t *testing.T) {
	for _, f := range smallForms() {
		all := allNumbers(f)
		for i, bits := range all {
			if bits == infinite(f)+minus(f) {
				wants(t, tellBits(Down(f, bits)), toldBits{0, api.ErrStep}, f, "Down", bits)
			} else {
				below := all[i-1]
				wants(t, tellBits(Down(f, bits)), toldBits{below, api.OK}, f, "Down", bits)
			}
			if bits == infinite(f) {
				wants(t, tellBits(Up(f, bits)), toldBits{0, api.ErrStep}, f, "Up", bits)
				continue
			}
			above := all[i+1]
			if above == 0 {
				above = minus(f)
			}
			wants(t, tellBits(Up(f, bits)), toldBits{above, api.OK}, f, "Up", bits)
		}
	}
}

// P6.1, at what the promise names, in all forms.
func TestP61UpAndDownAtTheEdges(t *testing.T) {
	for exp := 2; exp <= 11; exp++ {
		for frac := 1; frac <= 52; frac++ {
			f := form(exp, frac)
			neg, inf, top := minus(f), infinite(f), uint64(1)<<frac
			for _, c := range []struct{ low, high uint64 }{
				{1, 2}, {top - 1, top}, {top, top + 1}, {2*top - 1, 2 * top}, {greatest(f) - 1, greatest(f)}, {greatest(f), inf},
			} {
				wants(t, tellBits(Up(f, c.low)), toldBits{c.high, api.OK}, f, "Up", c.low)
				wants(t, tellBits(Down(f, c.high)), toldBits{c.low, api.OK}, f, "Down", c.high)
				wants(t, tellBits(Up(f, c.high+neg)), toldBits{c.low + neg, api.OK}, f, "Up", c.high+neg)
				wants(t, tellBits(Down(f, c.low+neg)), toldBits{c.high + neg, api.OK}, f, "Down", c.low+neg)
			}
			for _, nought := range []uint64{0, neg} {
				wants(t, tellBits(Up(f, nought)), toldBits{1, api.OK}, f, "Up", nought)
				wants(t, tellBits(Down(f, nought)), toldBits{neg + 1, api.OK}, f, "Down", nought)
			}
			wants(t, tellBits(Up(f, neg+1)), toldBits{neg, api.OK}, f, "Up", neg+1)
			wants(t, tellBits(Down(f, 1)), toldBits{0, api.OK}, f, "Down", 1)
			wants(t, tellBits(Up(f, inf)), toldBits{0, api.ErrStep}, f, "Up", inf)
			wants(t, tellBits(Down(f, inf+neg)), toldBits{0, api.ErrStep}, f, "Down", inf+neg)
			for _, nan := range []uint64{inf + 1, neg - 1, neg + inf + 1, 2*neg - 1} {
				wants(t, tellBits(Up(f, nan)), toldBits{0, api.ErrArg}, f, "Up", nan)
				wants(t, tellBits(Down(f, nan)), toldBits{0, api.ErrArg}, f, "Down", nan)
			}
		}
	}
}

// P6.1, against Go's own neighbours.
func TestP61UpAndDownOfNativeFloats(t *testing.T) {
	r := source(1)
	plus, below := math.Inf(1), math.Inf(-1)
	for range 20000 {
		x := math.Float64frombits(some(r, double))
		bits := math.Float64bits(x)
		wants(t, tellBits(Up(double, bits)), toldBits{math.Float64bits(math.Nextafter(x, plus)), api.OK}, double, "Up", bits)
		wants(t, tellBits(Down(double, bits)), toldBits{math.Float64bits(math.Nextafter(x, below)), api.OK}, double, "Down", bits)
		y := math.Float32frombits(uint32(some(r, single)))
		bits = uint64(math.Float32bits(y))
		wants(t, tellBits(Up(single, bits)), toldBits{uint64(math.Float32bits(math.Nextafter32(y, float32(plus)))), api.OK}, single, "Up", bits)
		wants(t, tellBits(Down(single, bits)), toldBits{uint64(math.Float32bits(math.Nextafter32(y, float32(below)))), api.OK}, single, "Down", bits)
	}
}

func checkUlp(t *testing.T, f api.Form, bits uint64) {
	t.Helper()
	size := bits % minus(f)
	want := less(worth(f, size+1), worth(f, size))
	if d, e := Ulp(f, bits); e != api.OK || !sameDyadic(d, want) {
		t.Errorf("Ulp(%v, %#x): %v, error %d; want %s", f, bits, d, int(e), short(want))
	}
}

// P6.2: the way to the next float farther from nought; for the greatest one that is the next one beyond it.
func TestP62Ulp(t *testing.T) {
	for _, f := range smallForms() {
		for bits := range infinite(f) {
			checkUlp(t, f, bits)
			checkUlp(t, f, bits+minus(f))
		}
	}
	r := source(2)
	for _, f := range edgeForms() {
		for _, bits := range edges(f) {
			checkUlp(t, f, bits)
		}
		for range 300 {
			checkUlp(t, f, some(r, f))
		}
	}
}

func TestP62UlpByTheExponent(t *testing.T) {
	for _, f := range edgeForms() {
		for exp := range 1<<f.Exp - 1 {
			d, e := Ulp(f, uint64(exp)<<f.Frac|1)
			if want := max(exp, 1) - bias(f) - f.Frac; e != api.OK || d.Exp != want || d.Neg || len(d.Mant.Limbs) != 1 || d.Mant.Limbs[0] != 1 {
				t.Errorf("Ulp in %v with the exponent %d: %v, error %d, want 2^%d", f, exp, d, int(e), want)
			}
		}
	}
}

func TestP62UlpOfWhatIsNotFinite(t *testing.T) {
	for _, f := range append(edgeForms(), smallForms()...) {
		for _, bits := range []uint64{infinite(f), infinite(f) + 1, minus(f) - 1} {
			for _, sign := range []uint64{0, minus(f)} {
				if d, e := Ulp(f, bits+sign); e != api.ErrFinite || !zeroDyadic(d) {
					t.Errorf("Ulp(%v, %#x): %v, error %d", f, bits+sign, d, int(e))
				}
			}
		}
	}
}
