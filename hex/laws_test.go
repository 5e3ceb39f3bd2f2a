package hex

import (
	"math"
	"strconv"
	"strings"
	"testing"

	"numeral/api"
)

// eachFloat goes through finite floats: all of small forms, the edges of every form, and some others.
func eachFloat(seed uint64, count int, yield func(f api.Form, float uint64)) {
	for _, f := range smallForms() {
		for _, float := range finite(f, everyBits(f)) {
			yield(f, float)
		}
	}
	for _, f := range allForms() {
		for _, float := range edges(f) {
			yield(f, float)
		}
	}
	r := source(seed)
	for range count {
		f := someForm(r)
		yield(f, some(r, f))
	}
}

// Read of Print is the float, by every mode, without a flag.
func TestP125ReadOfPrint(t *testing.T) {
	eachFloat(10, 5000, func(f api.Form, float uint64) {
		s := mustPrint(t, f, float)
		for _, mode := range everyMode {
			readAs(t, f, s, mode, float, 0)
		}
	})
}

// So is that of Places, if there are as many as Print has or more; it is Print with noughts behind.
func TestP125PlacesOfAllDigits(t *testing.T) {
	eachFloat(11, 1000, func(f api.Form, float uint64) {
		s := mustPrint(t, f, float)
		head, exp, _ := strings.Cut(s, "p")
		there := digitsBehind(s)
		for more, mode := range everyMode {
			want := s
			if more > 0 {
				want = head
				if there == 0 {
					want += "."
				}
				want += again("0", more) + "p" + exp
			}
			placedAs(t, f, float, there+more, mode, want)
			readAs(t, f, want, mode, float, 0)
		}
	})
}

// Load of Dump is the bits, of every float.
func TestP125LoadOfDump(t *testing.T) {
	r := source(12)
	for range 20000 {
		f := someForm(r)
		bits := r.Uint64() & last(f)
		s, e := Dump(f, bits)
		if e != api.OK {
			t.Fatalf("Dump(%v, %#x): error %d", f, bits, int(e))
		}
		loadedAs(t, f, s, bits, 0, api.OK)
	}
}

// By Down no more than the float, by Up no less; Zero, Even and Away write one of these two.
func TestP125Sides(t *testing.T) {
	check := func(f api.Form, float uint64) {
		worth := worthOf(f, float)
		for places := range min(6, f.Frac/4+2) {
			down, up := mustPlaces(t, f, float, places, api.Down), mustPlaces(t, f, float, places, api.Up)
			low, high := saidBy(t, down), saidBy(t, up)
			if low.Cmp(worth) > 0 || high.Cmp(worth) < 0 {
				t.Errorf("%v, the float %#x with %d places: %s by Down, %s by Up", f, float, places, down, up)
			}
			if (low.Cmp(high) == 0) != (low.Cmp(worth) == 0 && high.Cmp(worth) == 0) {
				t.Errorf("%v, the float %#x with %d places: both ways %s", f, float, places, down)
			}
			for _, mode := range []uint8{api.Even, api.Away, api.Zero} {
				if s := mustPlaces(t, f, float, places, mode); s != down && s != up {
					t.Errorf("%v, the float %#x with %d places by the mode %d: %s, but %s by Down, %s by Up", f, float, places, mode, s, down, up)
				}
			}
		}
	}
	for _, f := range append(smallForms()[:8], namedForms()...) {
		for _, float := range edges(f) {
			check(f, float)
		}
	}
	r := source(13)
	for range 2000 {
		f := someForm(r)
		check(f, some(r, f))
	}
}

// Go's own reading of Print is the float.
func TestP125AsGoReads(t *testing.T) {
	r := source(14)
	doubles, singles := edges(double), edges(single)
	for range 20000 {
		doubles, singles = append(doubles, some(r, double)), append(singles, some(r, single))
	}
	for _, float := range doubles {
		s := mustPrint(t, double, float)
		if v, err := strconv.ParseFloat(s, 64); err != nil || math.Float64bits(v) != float {
			t.Errorf("Print(Double, %#x): %s, which Go reads as %v, %v", float, s, v, err)
		}
	}
	for _, float := range singles {
		s := mustPrint(t, single, float)
		if v, err := strconv.ParseFloat(s, 32); err != nil || uint64(math.Float32bits(float32(v))) != float {
			t.Errorf("Print(Single, %#x): %s, which Go reads as %v, %v", float, s, v, err)
		}
	}
}
