package round

import (
	"math/big"
	"slices"
	"testing"

	"numeral/api"
	"numeral/nat"
)

// wholeWant is the whole number to which x rounds, by the chapter's words.
func wholeWant(x *big.Rat, mode uint8) *big.Int {
	low := new(big.Int).Div(x.Num(), x.Denom()) // rounded down, as Denom is above nought
	if x.IsInt() {
		return low
	}
	high := new(big.Int).Add(low, big.NewInt(1))
	near, far := low, high
	if x.Sign() < 0 {
		near, far = high, low
	}
	way := func(n *big.Int) *big.Rat { return new(big.Rat).Abs(less(x, new(big.Rat).SetInt(n))) }
	order := way(near).Cmp(way(far))
	switch {
	case mode == api.Up:
		return high
	case mode == api.Down:
		return low
	case mode == api.Zero || order < 0:
		return near
	case mode == api.Away || order > 0 || far.Bit(0) == 0:
		return far
	}
	return near
}

func wantsWhole(t *testing.T, what string, r api.Ratio, mode uint8, neg bool, n api.Nat, exact bool) {
	t.Helper()
	gotNeg, got, gotExact, e := Whole(r, mode)
	if gotNeg != neg || !slices.Equal(got.Limbs, n.Limbs) || gotExact != exact || e != api.OK {
		t.Errorf("Whole of %s, mode %d: %v, %d limbs, %v, error %d", what, mode, gotNeg, len(got.Limbs), gotExact, int(e))
	}
}

func checkWhole(t *testing.T, x *big.Rat) {
	t.Helper()
	for _, mode := range everyMode {
		want := wholeWant(x, mode)
		n := asRatio(new(big.Rat).SetInt(want)).Num
		wantsWhole(t, short(x), asRatio(x), mode, want.Sign() < 0, n, x.IsInt())
	}
}

// All parts about the first whole numbers, on both sides of nought, halves and noughts among them.
func TestP54WholeOfSmallFractions(t *testing.T) {
	for den := int64(1); den <= 12; den++ {
		for num := -6 * den; num <= 6*den; num++ {
			checkWhole(t, frac(num, den))
		}
	}
}

func TestP54WholeOfSome(t *testing.T) {
	r := source(8)
	for range 2000 {
		x := some(r, r.IntN(200)-10)
		checkWhole(t, x)
		near := new(big.Rat).SetInt(new(big.Int).Quo(x.Num(), x.Denom()))
		half := plus(near, frac(1, 2))
		checkWhole(t, near)
		checkWhole(t, half)
		checkWhole(t, plus(half, twoTo(-300)))
		checkWhole(t, less(half, twoTo(-300)))
	}
}

// Twice a rest of so many limbs would be too long, and so would twice the number.
func TestP54WholeOfLongFractions(t *testing.T) {
	one, two, long := nat.Of(1), nat.Of(2), longest()
	half, _ := nat.Down(long, 1) // of one bit less, odd
	next, _ := nat.Add(half, one)
	below, _, _ := nat.Sub(long, one)
	for _, neg := range []bool{false, true} {
		up, down := half, half
		if neg {
			down = next
		} else {
			up = next
		}
		for mode, want := range []api.Nat{next, next, half, up, down} {
			wantsWhole(t, "the longest over 2", api.Ratio{Neg: neg, Num: long, Den: two}, uint8(mode), neg, want, false)
			wantsWhole(t, "the longest", api.Ratio{Neg: neg, Num: long, Den: one}, uint8(mode), neg, long, true)
		}
	}
	var none api.Nat
	for mode, want := range []api.Nat{none, none, none, one, none} {
		wantsWhole(t, "a little below 1/2", api.Ratio{Num: half, Den: long}, uint8(mode), false, want, false)
	}
	for mode, want := range []api.Nat{one, one, none, one, none} {
		wantsWhole(t, "a little above 1/2", api.Ratio{Num: next, Den: long}, uint8(mode), false, want, false)
		wantsWhole(t, "a little below 1", api.Ratio{Num: below, Den: long}, uint8(mode), false, want, false)
	}
	for mode, want := range []api.Nat{one, one, one, two, one} {
		wantsWhole(t, "a little above 1", api.Ratio{Num: long, Den: below}, uint8(mode), false, want, false)
	}
}
