package near

import (
	"math/big"
	"testing"

	"numeral/api"
)

// sameButNought is whether two floats are the same place.
func sameButNought(f api.Form, a, b uint64) bool { return a == b || a%minus(f) == 0 && b%minus(f) == 0 }

func checkBeside(t *testing.T, f api.Form, bits uint64) {
	t.Helper()
	above, e := Up(f, bits)
	if e == api.OK {
		if back, e := Down(f, above); e != api.OK || !sameButNought(f, back, bits) {
			t.Errorf("Down of Up of %#x in %v: %#x, error %d", bits, f, back, int(e))
		}
		wants(t, tellSteps(Steps(f, bits, above)), toldSteps{false, 1, api.OK}, f, "Steps", bits, above)
	}
	below, e := Down(f, bits)
	if e == api.OK {
		if back, e := Up(f, below); e != api.OK || !sameButNought(f, back, bits) {
			t.Errorf("Up of Down of %#x in %v: %#x, error %d", bits, f, back, int(e))
		}
		wants(t, tellSteps(Steps(f, bits, below)), toldSteps{true, 1, api.OK}, f, "Steps", bits, below)
	}
}

func TestP67DownOfUpIsThePlace(t *testing.T) {
	r := source(7)
	for _, f := range edgeForms() {
		for _, bits := range append(edges(f), infinite(f), infinite(f)+minus(f)) {
			checkBeside(t, f, bits)
		}
		for range 300 {
			checkBeside(t, f, some(r, f))
		}
	}
	for _, f := range smallForms() {
		for _, bits := range allNumbers(f) {
			checkBeside(t, f, bits)
		}
	}
}

// signed is a number of places with the way that it goes.
func signed(t *testing.T, f api.Form, a, b uint64) *big.Int {
	t.Helper()
	neg, n, e := Steps(f, a, b)
	if e != api.OK || neg && n == 0 {
		t.Errorf("Steps(%v, %#x, %#x): %v %d, error %d", f, a, b, neg, n, int(e))
	}
	way := new(big.Int).SetUint64(n)
	if neg {
		way.Neg(way)
	}
	return way
}

func TestP67StepsAddUp(t *testing.T) {
	r := source(8)
	for _, f := range edgeForms() {
		ends := append(edges(f), infinite(f), infinite(f)+minus(f))
		pick := func() uint64 {
			if r.IntN(2) == 0 {
				return ends[r.IntN(len(ends))]
			}
			return some(r, f)
		}
		for range 500 {
			a, b, c := pick(), pick(), pick()
			there, back := signed(t, f, a, b), signed(t, f, b, a)
			if there.Cmp(new(big.Int).Neg(back)) != 0 {
				t.Errorf("Steps between %#x and %#x in %v: %v and %v", a, b, f, there, back)
			}
			if sum := new(big.Int).Add(there, signed(t, f, b, c)); sum.Cmp(signed(t, f, a, c)) != 0 {
				t.Errorf("Steps from %#x to %#x to %#x in %v do not add up", a, b, c, f)
			}
		}
	}
}

func TestP67CmpAndOrderSayTheSame(t *testing.T) {
	r := source(9)
	for _, f := range append(edgeForms(), smallForms()...) {
		ends := append(edges(f), infinite(f), infinite(f)+minus(f))
		for range 500 {
			a, b := some(r, f), ends[r.IntN(len(ends))]
			if sameButNought(f, a, b) && a != b {
				continue
			}
			order, is, e := Cmp(f, a, b)
			if !is || e != api.OK {
				t.Errorf("Cmp(%v, %#x, %#x): %v, error %d", f, a, b, is, int(e))
			}
			wants(t, tellOrder(Order(f, a, b)), toldOrder{order, api.OK}, f, "Order", a, b)
		}
	}
}

// checkLies holds the reach of a float against round.Ratio, at its ends, by a little beside them, and at the float itself.
func checkLies(t *testing.T, f api.Form, bits uint64, mode uint8) {
	t.Helper()
	r := reachOf(t, f, bits, mode)
	little := times(worth(f, 1), big.NewRat(1, 1000003))
	for _, x := range []*big.Rat{r.low, less(r.low, little), plus(r.low, little), r.high, less(r.high, little), plus(r.high, little), worth(f, bits), halfway(r.low, r.high), new(big.Rat)} {
		in := r.has(x)
		if want := roundsTo(t, f, x, bits, mode); in != want {
			t.Errorf("Reach(%v, %#x, %d) is %v: %s in it: %v, rounds to it: %v", f, bits, mode, r, short(x), in, want)
		}
	}
}

func TestP67WhatRoundsToItLiesInReach(t *testing.T) {
	for i, f := range edgeForms() {
		t.Run("", func(t *testing.T) {
			t.Parallel()
			r := source(uint64(100 + i))
			for _, mode := range everyMode {
				for _, bits := range edges(f) {
					checkLies(t, f, bits, mode)
				}
				for range 20 {
					checkLies(t, f, some(r, f), mode)
				}
			}
		})
	}
}

func checkMeet(t *testing.T, f api.Form, bits uint64, mode uint8) {
	t.Helper()
	above, e := Up(f, bits)
	if e != api.OK || above%minus(f) >= infinite(f) {
		return
	}
	lower, upper := reachOf(t, f, bits, mode), reachOf(t, f, above, mode)
	if lower.high.Cmp(upper.low) != 0 || lower.highIn == upper.lowIn {
		t.Errorf("Reaches of %#x and %#x in %v, mode %d: %v and %v", bits, above, f, mode, lower, upper)
	}
}

func TestP67ReachesMeet(t *testing.T) {
	r := source(11)
	for _, f := range edgeForms() {
		for _, mode := range everyMode {
			for _, bits := range edges(f) {
				// From minus nought one goes to nought first, where the two reaches share 0.
				if bits == minus(f) {
					bits = 0
				}
				checkMeet(t, f, bits, mode)
			}
			for range 20 {
				if bits := some(r, f); bits != minus(f) {
					checkMeet(t, f, bits, mode)
				}
			}
			over, below := reachOf(t, f, 0, mode), reachOf(t, f, minus(f), mode)
			if over.low.Cmp(below.high) != 0 || !over.lowIn || !below.highIn {
				t.Errorf("Reaches of the noughts of %v, mode %d: %v and %v", f, mode, below, over)
			}
		}
	}
}
