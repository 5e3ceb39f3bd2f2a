package soft

import (
	"math/big"
	"testing"

	"numeral/api"
)

// toldBits is an answer of the calls that do not round.
type toldBits struct {
	bits uint64
	e    api.Errno
}

func tellBits(bits uint64, e api.Errno) toldBits { return toldBits{bits, e} }

func wantsBits(t *testing.T, got toldBits, want uint64, what string, f api.Form, operands ...uint64) {
	t.Helper()
	if got != (toldBits{want, api.OK}) {
		t.Errorf("%s of %#x in %v: %#x, error %d; want %#x", what, operands, f, got.bits, int(got.e), want)
	}
}

// P7.8: all bits but the sign are kept, of what is no number, too.
func TestP78NegAndAbs(t *testing.T) {
	check := func(f api.Form, rest uint64) {
		t.Helper()
		wantsBits(t, tellBits(Neg(f, rest)), rest+minus(f), "Neg", f, rest)
		wantsBits(t, tellBits(Neg(f, rest+minus(f))), rest, "Neg", f, rest+minus(f))
		wantsBits(t, tellBits(Abs(f, rest)), rest, "Abs", f, rest)
		wantsBits(t, tellBits(Abs(f, rest+minus(f))), rest, "Abs", f, rest+minus(f))
	}
	for _, f := range append(smallForms(), half) {
		for rest := range minus(f) {
			check(f, rest)
		}
	}
	r := source(8)
	for _, f := range allForms() {
		for _, bits := range allEdges(f) {
			check(f, bits%minus(f))
		}
		for range 20 {
			check(f, r.Uint64N(minus(f)))
		}
	}
}

// wantPicks is the lesser and the greater one by their worths; minus nought is less than nought.
func wantPicks(f api.Form, a, b uint64) (lesser, greater uint64) {
	if isNaN(f, a) || isNaN(f, b) {
		return theNaN(f), theNaN(f)
	}
	order := worth(f, a).Cmp(worth(f, b))
	if order < 0 || order == 0 && isNeg(f, a) {
		return a, b
	}
	return b, a
}

func checkPicks(t *testing.T, f api.Form, a, b uint64) {
	t.Helper()
	lesser, greater := wantPicks(f, a, b)
	wantsBits(t, tellBits(Min(f, a, b)), lesser, "Min", f, a, b)
	wantsBits(t, tellBits(Max(f, a, b)), greater, "Max", f, a, b)
}

func TestP78MinAndMaxOfSmallForms(t *testing.T) {
	for _, f := range smallForms()[:6] {
		for a := range 2 * minus(f) {
			for b := range 2 * minus(f) {
				checkPicks(t, f, a, b)
			}
		}
	}
}

func TestP78MinAndMaxOfAnyForm(t *testing.T) {
	r := source(78)
	for _, f := range edgeForms() {
		all := allEdges(f)
		for _, a := range all {
			for _, b := range all {
				checkPicks(t, f, a, b)
			}
		}
		for range 500 {
			checkPicks(t, f, some(r, f), some(r, f))
		}
	}
	for _, f := range allForms() {
		for range 5 {
			checkPicks(t, f, some(r, f), some(r, f))
		}
	}
}

// A row from minus infinity to infinity: of any two the one that stands ahead is the lesser one.
func TestP78Rows(t *testing.T) {
	for _, f := range allForms() {
		neg := minus(f)
		row := []uint64{neg + infinity(f), neg + greatest(f), neg + one(f), neg + 1, neg, 0, 1, one(f), greatest(f), infinity(f)}
		for i, a := range row {
			for j, b := range row {
				wantsBits(t, tellBits(Min(f, a, b)), row[min(i, j)], "Min", f, a, b)
				wantsBits(t, tellBits(Max(f, a, b)), row[max(i, j)], "Max", f, a, b)
			}
		}
	}
}

// The worths that the tests go by, held against some that are written out.
func TestWorthsOfTheTests(t *testing.T) {
	for _, c := range []struct {
		f    api.Form
		bits uint64
		want *big.Rat
	}{
		{half, 0x3c00, big.NewRat(1, 1)}, {half, 0xc200, big.NewRat(-3, 1)}, {half, 1, twoTo(-24)}, {half, 0x7bff, big.NewRat(65504, 1)},
		{form(2, 1), 1, big.NewRat(1, 2)}, {form(2, 1), 5, big.NewRat(3, 1)}, {double, 1, twoTo(-1074)}, {double, 0x3ff8000000000000, big.NewRat(3, 2)}, {single, 0x40490fdb, big.NewRat(0x490fdb+1<<23, 1<<22)},
	} {
		if got := worth(c.f, c.bits); got.Cmp(c.want) != 0 {
			t.Errorf("%#x in %v is worth %s", c.bits, c.f, got.RatString())
		}
	}
}
