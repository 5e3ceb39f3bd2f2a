package sums

import (
	"math"
	"math/big"
	"slices"
	"testing"

	"numeral/api"
)

// boundWant is what Bound owes, by its words.
func boundWant(l []float64) float64 {
	switch {
	case slices.ContainsFunc(l, math.IsNaN):
		return none
	case !isReal(plainWant(l)):
		return inf
	case len(l) < 2:
		return 0
	}
	k := times(big.NewRat(int64(len(l)-1), 1), worth(u))
	share := new(big.Rat).Quo(k, less(big.NewRat(1, 1), k))
	return above(times(sumOf(sizes(l)), share))
}

func TestP97Bound(t *testing.T) {
	eachList(971, func(l []float64) { wants(t, "Bound", l, Bound(l), boundWant(l)) })
}

func TestP97Edges(t *testing.T) {
	for _, c := range []struct {
		l    []float64
		want float64
	}{
		{nil, 0},
		{[]float64{1}, 0},
		{[]float64{-1}, 0},
		{[]float64{minus}, 0},
		{[]float64{greatest}, 0},
		{[]float64{inf}, inf},
		{[]float64{-inf}, inf},
		{[]float64{none}, none},
		{[]float64{none, inf}, none},
		{[]float64{inf, none, -inf}, none},
		{[]float64{inf, -inf}, inf},
		{[]float64{-inf, 1}, inf},
		{[]float64{greatest, greatest}, inf},
		{[]float64{-greatest, -greatest, greatest}, inf},
		{[]float64{minus, minus}, 0},
		{[]float64{0, minus, 0}, 0},
		{[]float64{1, 1}, 0x1.0000000000001p-52},
		{[]float64{1, -1}, 0x1.0000000000001p-52},
		{[]float64{-1, -1}, 0x1.0000000000001p-52},
		{[]float64{least, 0}, least},
		{[]float64{-least, least}, least},
		{[]float64{minus, -least, 0}, least},
		// The sum without signs is beyond all floats, the bound is not.
		{[]float64{greatest, -greatest}, 0x1p972},
		{[]float64{greatest, -greatest, greatest}, 0x1.8000000000001p973},
	} {
		wants(t, "Bound", c.l, Bound(c.l), c.want)
	}
}

// As long a list as a list may be elsewhere, and a longer one.
func TestP97OfLongLists(t *testing.T) {
	for _, n := range []int{api.MaxList, api.MaxList + 1, 300000} {
		l := make([]float64, n)
		for i := range l {
			l[i] = 0.1
		}
		if got, want := Bound(l), boundOfLike(0.1, n); got != want {
			t.Errorf("Bound of %d times 0.1: %v, want %v", n, got, want)
		}
	}
}

// boundOfLike is the bound of a float that stands so many times in a list.
func boundOfLike(x float64, n int) float64 {
	count, steps := big.NewRat(int64(n), 1), big.NewRat(int64(n-1), 1<<53-int64(n-1))
	return above(times(times(worth(x), count), steps))
}
