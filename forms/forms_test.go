package forms

import (
	"math"
	"testing"

	"numeral/api"
)

func TestP31Names(t *testing.T) {
	for name, x := range map[string]struct{ got, want api.Form }{
		"Half":   {Half(), form(5, 10)},
		"Brain":  {Brain(), form(8, 7)},
		"Single": {Single(), form(8, 23)},
		"Double": {Double(), form(11, 52)},
	} {
		if x.got != x.want {
			t.Errorf("%s is %v", name, x.got)
		}
	}
}

func TestP31CheckOfWhatMayBe(t *testing.T) {
	for _, f := range allForms() {
		if e := Check(f); e != api.OK {
			t.Errorf("Check(%v): error %d", f, int(e))
		}
	}
}

func TestP31CheckOfWhatMayNotBe(t *testing.T) {
	for _, f := range wrongForms() {
		if e := Check(f); e != api.ErrForm {
			t.Errorf("Check(%v): error %d", f, int(e))
		}
	}
	for exp := -3; exp <= 70; exp++ {
		for frac := -3; frac <= 70; frac++ {
			want := api.ErrForm
			if exp > 1 && exp < 12 && frac > 0 && frac < 53 {
				want = api.OK
			}
			if e := Check(form(exp, frac)); e != want {
				t.Errorf("Check({%d, %d}): error %d", exp, frac, int(e))
			}
		}
	}
}

func TestP31Fits(t *testing.T) {
	for _, f := range allForms() {
		for _, bits := range everyBits(f) {
			if e := Fits(f, bits); e != api.OK {
				t.Errorf("Fits(%v, %#x): error %d", f, bits, int(e))
			}
		}
		first, some := beyond(f)
		if !some {
			continue
		}
		if e := Fits(f, first-1); e != api.OK {
			t.Errorf("Fits(%v, %#x), the last: error %d", f, first-1, int(e))
		}
		for _, bits := range []uint64{first, first + 1, first | first>>1, 2*first - 1, 1 << 63, 1<<63 + 1, math.MaxUint64} {
			if e := Fits(f, bits); e != api.ErrBits {
				t.Errorf("Fits(%v, %#x): error %d", f, bits, int(e))
			}
		}
	}
}

func TestP31DoubleHasAllBits(t *testing.T) {
	for _, bits := range []uint64{0, 1, 1<<63 - 1, 1 << 63, math.MaxUint64} {
		if e := Fits(Double(), bits); e != api.OK {
			t.Errorf("Fits(Double, %#x): error %d", bits, int(e))
		}
	}
}

func TestP33Class(t *testing.T) {
	for _, f := range allForms() {
		for _, bits := range everyBits(f) {
			if c, e := Class(f, bits); c != classOf(f, bits) || e != api.OK {
				t.Errorf("Class(%v, %#x) = %d, error %d", f, bits, c, int(e))
			}
		}
	}
}

func TestP33ClassAtTheClassesEnds(t *testing.T) {
	for _, f := range allForms() {
		frac := uint64(1) << f.Frac
		last := (uint64(1)<<f.Exp - 1) * frac
		for _, x := range []struct {
			bits uint64
			want uint8
		}{
			{0, api.ClassZero}, {1, api.ClassSmall}, {frac - 1, api.ClassSmall},
			{frac, api.ClassNormal}, {last - 1, api.ClassNormal},
			{last, api.ClassInf}, {last + 1, api.ClassNaN}, {last + frac - 1, api.ClassNaN},
		} {
			minus := x.bits | 1<<(size(f)-1)
			for _, bits := range []uint64{x.bits, minus} {
				if c, e := Class(f, bits); c != x.want || e != api.OK {
					t.Errorf("Class(%v, %#x) = %d, error %d; want %d", f, bits, c, int(e), x.want)
				}
			}
		}
	}
}

func TestP35Range(t *testing.T) {
	for _, f := range allForms() {
		least, greatest, e := Range(f)
		if e != api.OK {
			t.Fatalf("Range(%v): error %d", f, int(e))
		}
		if worth(t, f, 1).Cmp(twoTo(least)) != 0 {
			t.Errorf("Range(%v): the least float above nought is not 2 to the power of %d", f, least)
		}
		most := (uint64(1)<<f.Exp-1)<<f.Frac - 1
		g := worth(t, f, most)
		if g.Cmp(twoTo(greatest)) < 0 || g.Cmp(twoTo(greatest+1)) >= 0 {
			t.Errorf("Range(%v): the greatest float's first bit is not %d", f, greatest)
		}
	}
}
