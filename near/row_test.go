package near

import (
	"cmp"
	"math"
	"math/big"
	"slices"
	"testing"

	"numeral/api"
)

// P6.3 and P6.4, for all pairs of floats of the small forms: places are those of a list that is sorted by worths.
func TestP63CmpAndP64StepsInSmallForms(t *testing.T) {
	for _, f := range smallForms()[:6] {
		place := map[uint64]int{}
		for i, bits := range allNumbers(f) {
			place[bits] = i
		}
		place[minus(f)] = place[0]
		for a := range 2 * minus(f) {
			for b := range 2 * minus(f) {
				if isNaN(f, a) || isNaN(f, b) {
					wants(t, tellCmp(Cmp(f, a, b)), toldCmp{0, false, api.OK}, f, "Cmp", a, b)
					wants(t, tellSteps(Steps(f, a, b)), toldSteps{false, 0, api.ErrArg}, f, "Steps", a, b)
					continue
				}
				wants(t, tellCmp(Cmp(f, a, b)), wantCmp(place[a], place[b]), f, "Cmp", a, b)
				wants(t, tellSteps(Steps(f, a, b)), wantSteps(place[a], place[b]), f, "Steps", a, b)
			}
		}
	}
}

func TestP63OrderInSmallForms(t *testing.T) {
	for _, f := range smallForms()[:6] {
		all := allBits(f)
		for i, a := range all {
			for j, b := range all {
				wants(t, tellOrder(Order(f, a, b)), wantOrder(i, j), f, "Order", a, b)
			}
		}
	}
}

// P6.3, in all forms: the row of all bits, with its ends, both noughts, both infinities, and what is no number.
func TestP63OrderAtTheEdges(t *testing.T) {
	for exp := 2; exp <= 11; exp++ {
		for frac := 1; frac <= 52; frac++ {
			f := form(exp, frac)
			neg, inf := minus(f), infinite(f)
			// With one fraction bit there is one NaN of each sign, which stands here twice.
			row := slices.Compact([]uint64{2*neg - 1, neg + inf + 1, neg + inf, neg + greatest(f), neg + 1, neg, 0, 1, greatest(f), inf, inf + 1, neg - 1})
			for i, a := range row {
				for j, b := range row {
					wants(t, tellOrder(Order(f, a, b)), wantOrder(i, j), f, "Order", a, b)
				}
			}
		}
	}
}

// P6.3, against Go's own comparisons.
func TestP63CmpOfNativeFloats(t *testing.T) {
	r := source(3)
	for range 20000 {
		a, b := r.Uint64(), r.Uint64()
		if r.IntN(3) == 0 {
			b = a ^ 1<<r.IntN(64)
		}
		x, y := math.Float64frombits(a), math.Float64frombits(b)
		want := toldCmp{0, false, api.OK}
		if x == x && y == y {
			want = toldCmp{cmp.Compare(x, y), true, api.OK}
		}
		wants(t, tellCmp(Cmp(double, a, b)), want, double, "Cmp", a, b)
	}
}

// P6.3: what is no number, of either sign, quiet or not, in either place.
func TestP63CmpOfWhatIsNoNumber(t *testing.T) {
	for _, f := range edgeForms() {
		for _, nan := range []uint64{infinite(f) + 1, minus(f) - 1} {
			for _, sign := range []uint64{0, minus(f)} {
				for _, other := range []uint64{0, minus(f), 1, infinite(f), minus(f) + infinite(f), nan, nan + sign} {
					wants(t, tellCmp(Cmp(f, nan+sign, other)), toldCmp{0, false, api.OK}, f, "Cmp", nan+sign, other)
					wants(t, tellCmp(Cmp(f, other, nan+sign)), toldCmp{0, false, api.OK}, f, "Cmp", other, nan+sign)
					wants(t, tellSteps(Steps(f, nan+sign, other)), toldSteps{false, 0, api.ErrArg}, f, "Steps", nan+sign, other)
					wants(t, tellSteps(Steps(f, other, nan+sign)), toldSteps{false, 0, api.ErrArg}, f, "Steps", other, nan+sign)
				}
			}
		}
	}
}

// placeOf is a float's place by numbers of any size: nought's is 0.
func placeOf(f api.Form, bits uint64) *big.Int {
	n := new(big.Int).SetUint64(bits % minus(f))
	if bits >= minus(f) {
		n.Neg(n)
	}
	return n
}

func checkSteps(t *testing.T, f api.Form, a, b uint64) {
	t.Helper()
	way := new(big.Int).Sub(placeOf(f, b), placeOf(f, a))
	neg := way.Sign() < 0
	n := way.Abs(way).Uint64()
	wants(t, tellSteps(Steps(f, a, b)), toldSteps{neg, n, api.OK}, f, "Steps", a, b)
}

// P6.4: across nought, from one end to the other, between the noughts.
func TestP64Steps(t *testing.T) {
	for _, f := range edgeForms() {
		eachPair(t, f, append(edges(f), infinite(f), infinite(f)+minus(f)), checkSteps)
	}
}

// eachPair checks all pairs of some floats, and some pairs of any.
func eachPair(t *testing.T, f api.Form, floats []uint64, check func(t *testing.T, f api.Form, a, b uint64)) {
	t.Helper()
	for _, a := range floats {
		for _, b := range floats {
			check(t, f, a, b)
		}
	}
	r := source(uint64(f.Exp * f.Frac))
	for range 400 {
		check(t, f, some(r, f), some(r, f))
	}
}

func TestP64StepsFromEndToEnd(t *testing.T) {
	for exp := 2; exp <= 11; exp++ {
		for frac := 1; frac <= 52; frac++ {
			f := form(exp, frac)
			low, high := minus(f)+infinite(f), infinite(f)
			wants(t, tellSteps(Steps(f, low, high)), toldSteps{false, 2 * infinite(f), api.OK}, f, "Steps", low, high)
			wants(t, tellSteps(Steps(f, high, low)), toldSteps{true, 2 * infinite(f), api.OK}, f, "Steps", high, low)
		}
	}
}

func checkMid(t *testing.T, f api.Form, a, b uint64) {
	t.Helper()
	want := halfway(worth(f, a), worth(f, b))
	if d, e := Mid(f, a, b); e != api.OK || !sameDyadic(d, want) {
		t.Errorf("Mid(%v, %#x, %#x): %v, error %d; want %s", f, a, b, d, int(e), short(want))
	}
}

// P6.6: of floats beside one another and far apart, of both signs.
func TestP66Mid(t *testing.T) {
	for _, f := range smallForms()[:4] {
		for a := range 2 * minus(f) {
			for b := range 2 * minus(f) {
				if a%minus(f) < infinite(f) && b%minus(f) < infinite(f) {
					checkMid(t, f, a, b)
				}
			}
		}
	}
	for _, f := range edgeForms() {
		eachPair(t, f, edges(f), checkMid)
	}
}

func TestP66MidOfWhatIsNotFinite(t *testing.T) {
	for _, f := range edgeForms() {
		for _, bits := range []uint64{infinite(f), infinite(f) + 1, minus(f) - 1} {
			for _, sign := range []uint64{0, minus(f)} {
				for _, other := range []uint64{0, 1, greatest(f), bits} {
					for _, pair := range [][2]uint64{{bits + sign, other}, {other, bits + sign}} {
						if d, e := Mid(f, pair[0], pair[1]); e != api.ErrFinite || !zeroDyadic(d) {
							t.Errorf("Mid(%v, %#x): %v, error %d", f, pair, d, int(e))
						}
					}
				}
			}
		}
	}
}
