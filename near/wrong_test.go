package near

import (
	"math"
	"testing"

	"numeral/api"
)

// everyCall tells the error of each call with these arguments, and reports results beside an error that are not zero; those with one float take a.
func everyCall(t *testing.T, f api.Form, a, b uint64, mode uint8) map[string]api.Errno {
	t.Helper()
	errs := map[string]api.Errno{}
	zero := func(name string, e api.Errno, isZero bool) {
		t.Helper()
		errs[name] = e
		if e != api.OK && !isZero {
			t.Errorf("%s(%v, %#x, %#x, mode %d): something beside the error %d", name, f, a, b, mode, int(e))
		}
	}
	up, e := Up(f, a)
	zero("Up", e, up == 0)
	down, e := Down(f, a)
	zero("Down", e, down == 0)
	ulp, e := Ulp(f, a)
	zero("Ulp", e, zeroDyadic(ulp))
	order, is, e := Cmp(f, a, b)
	zero("Cmp", e, order == 0 && !is)
	order, e = Order(f, a, b)
	zero("Order", e, order == 0)
	neg, n, e := Steps(f, a, b)
	zero("Steps", e, !neg && n == 0)
	low, high, lowIn, highIn, e := Reach(f, a, mode)
	zero("Reach", e, zeroRatio(low) && zeroRatio(high) && !lowIn && !highIn)
	mid, e := Mid(f, a, b)
	zero("Mid", e, zeroDyadic(mid))
	return errs
}

// wantsAll wants the same error of all calls, but for those named.
func wantsAll(t *testing.T, f api.Form, a, b uint64, mode uint8, want api.Errno, but map[string]api.Errno) {
	t.Helper()
	for name, e := range everyCall(t, f, a, b, mode) {
		owed, named := but[name]
		if !named {
			owed = want
		}
		if e != owed {
			t.Errorf("%s(%v, %#x, %#x, mode %d): error %d, want %d", name, f, a, b, mode, int(e), int(owed))
		}
	}
}

func wrongForms() []api.Form {
	return []api.Form{{}, form(1, 5), form(12, 5), form(5, 0), form(5, 53), form(-5, 10), form(5, -10), form(math.MaxInt, 10), form(5, math.MinInt), form(math.MaxInt, math.MaxInt), form(64, 64), form(1, 52), form(11, 53)}
}

// A form that may not be comes ahead of all.
func TestWrongForms(t *testing.T) {
	for _, f := range wrongForms() {
		for _, bits := range []uint64{0, 1, math.MaxUint64} {
			for _, mode := range []uint8{api.Even, api.Down + 1, 255} {
				wantsAll(t, f, bits, bits, mode, api.ErrForm, nil)
			}
		}
	}
}

// Bits beyond the form come ahead of the mode, and of what the other float is, in either place.
func TestWrongBits(t *testing.T) {
	for exp := 2; exp <= 11; exp++ {
		for frac := 1; frac <= 52; frac++ {
			f := form(exp, frac)
			if exp+frac == 63 {
				continue
			}
			nan := infinite(f) + 1
			for _, wrong := range []uint64{2 * minus(f), 2*minus(f) + nan, 1 << 63, math.MaxUint64} {
				for _, other := range []uint64{0, nan, infinite(f), wrong} {
					wantsAll(t, f, wrong, other, api.Down+1, api.ErrBits, nil)
				}
			}
		}
	}
	for _, f := range []api.Form{half, single, form(2, 1), form(11, 51)} {
		wrong, nan := 2*minus(f), infinite(f)+1
		for _, first := range []uint64{0, 1, minus(f), greatest(f), infinite(f), nan} {
			for name, e := range everyCall(t, f, first, wrong, api.Even) {
				if two := name == "Cmp" || name == "Order" || name == "Steps" || name == "Mid"; two && e != api.ErrBits {
					t.Errorf("%s(%v, %#x, %#x): error %d", name, f, first, wrong, int(e))
				}
			}
		}
	}
}

// The form {11, 52} has all bits.
func TestAllBitsOfTheGreatestForm(t *testing.T) {
	wantsAll(t, double, math.MaxUint64, math.MaxUint64, api.Even, api.ErrArg, map[string]api.Errno{
		"Ulp": api.ErrFinite, "Cmp": api.OK, "Order": api.OK, "Reach": api.ErrFinite, "Mid": api.ErrFinite,
	})
}

// A mode above the last comes ahead of a float that is not finite.
func TestWrongModes(t *testing.T) {
	for _, f := range edgeForms() {
		for mode := 5; mode < 256; mode++ {
			for _, bits := range []uint64{0, minus(f), 1, greatest(f), infinite(f), infinite(f) + 1, minus(f) + infinite(f)} {
				low, high, lowIn, highIn, e := Reach(f, bits, uint8(mode))
				if e != api.ErrMode || !zeroRatio(low) || !zeroRatio(high) || lowIn || highIn {
					t.Errorf("Reach(%v, %#x, %d): error %d", f, bits, mode, int(e))
				}
			}
		}
	}
}

func TestWhatIsNotFinite(t *testing.T) {
	for _, f := range append(edgeForms(), smallForms()...) {
		for _, mode := range everyMode {
			for _, sign := range []uint64{0, minus(f)} {
				for _, nan := range []uint64{infinite(f) + 1, minus(f) - 1} {
					wantsAll(t, f, nan+sign, 1, mode, api.ErrArg, map[string]api.Errno{
						"Ulp": api.ErrFinite, "Cmp": api.OK, "Order": api.OK, "Reach": api.ErrFinite, "Mid": api.ErrFinite,
					})
				}
				but := map[string]api.Errno{"Ulp": api.ErrFinite, "Reach": api.ErrFinite, "Mid": api.ErrFinite}
				if sign == 0 {
					but["Up"] = api.ErrStep
				} else {
					but["Down"] = api.ErrStep
				}
				wantsAll(t, f, infinite(f)+sign, 1, mode, api.OK, but)
			}
		}
	}
}

// Whatever is handed in, the calls end and tell an error that the chapter has.
func TestAnythingAtAll(t *testing.T) {
	r := source(12)
	has := map[api.Errno]bool{api.OK: true, api.ErrArg: true, api.ErrForm: true, api.ErrBits: true, api.ErrMode: true, api.ErrFinite: true, api.ErrStep: true}
	for range 5000 {
		f := form(r.IntN(14), r.IntN(55))
		for name, e := range everyCall(t, f, r.Uint64()>>r.IntN(64), r.Uint64()>>r.IntN(64), uint8(r.IntN(7))) {
			if !has[e] {
				t.Errorf("%s in %v: error %d", name, f, int(e))
			}
		}
	}
}
