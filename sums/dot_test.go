package sums

import (
	"math"
	"math/big"
	"testing"

	"numeral/api"
)

func wantsDot(t *testing.T, a, b []float64, want, wantExact float64) {
	t.Helper()
	if got, e := Dot(a, b); !same(got, want) || e != api.OK {
		t.Errorf("Dot(%v, %v): %v, error %d; want %v", a, b, got, int(e), want)
	}
	if got, e := DotExact(a, b); !same(got, wantExact) || e != api.OK {
		t.Errorf("DotExact(%v, %v): %v, error %d; want %v", a, b, got, int(e), wantExact)
	}
}

// dotWant is what Dot owes, step by step.
func dotWant(a, b []float64) float64 {
	products := make([]float64, len(a))
	for i := range a {
		products[i] = multiplied(a[i], b[i])
	}
	return plainWant(products)
}

// dotExactWant goes by the words: first what is no number, then what is infinite, then the worths.
func dotExactWant(a, b []float64) float64 {
	up, down, sum, minuses := false, false, new(big.Rat), 0
	for i, x := range a {
		y := b[i]
		neg := math.Signbit(x) != math.Signbit(y)
		switch {
		case x != x || y != y || x == 0 && isInfinite(y) || isInfinite(x) && y == 0:
			return none
		case isInfinite(x) || isInfinite(y):
			up, down = up || !neg, down || neg
			continue
		case (x == 0 || y == 0) && neg:
			minuses++
		}
		sum.Add(sum, times(worth(x), worth(y)))
	}
	switch {
	case up && down:
		return none
	case up || down:
		return signedInf(down)
	}
	return nearest(sum, len(a) > 0 && minuses == len(a))
}

func TestP95OfLists(t *testing.T) {
	r := source(951)
	eachList(952, func(a []float64) {
		b := make([]float64, len(a))
		next := kinds()[r.IntN(len(kinds()))]
		for i := range b {
			b[i] = next(r)
		}
		wantsDot(t, a, b, dotWant(a, b), dotExactWant(a, b))
		wantsDot(t, b, a, dotWant(b, a), dotExactWant(b, a))
		wantsDot(t, a, a, dotWant(a, a), dotExactWant(a, a))
	})
}

// All pairs of edges, alone, and beside products of each kind.
func TestP95OfEdges(t *testing.T) {
	for _, x := range edges() {
		for _, y := range edges() {
			a, b := []float64{x}, []float64{y}
			wantsDot(t, a, b, dotWant(a, b), dotExactWant(a, b))
			for _, p := range [][2]float64{{1, 1}, {1, -1}, {0, -1}, {minus, -1}, {inf, 1}, {-inf, 1}, {greatest, 2}, {greatest, -2}, {least, 0.5}, {least, -0.5}, {0, inf}, {none, 0}, {x, -y}, {-y, x}, {x, y}} {
				a, b := []float64{x, p[0]}, []float64{y, p[1]}
				wantsDot(t, a, b, dotWant(a, b), dotExactWant(a, b))
			}
		}
	}
}

func TestP95Edges(t *testing.T) {
	for _, c := range []struct {
		a, b       []float64
		dot, exact float64
	}{
		{nil, nil, 0, 0},
		{[]float64{}, nil, 0, 0},
		{[]float64{1, 2}, []float64{3, 4}, 11, 11},
		{[]float64{1, -2, 3}, []float64{4, 5, -6}, -24, -24},
		{[]float64{greatest, 1}, []float64{2, -1}, inf, inf},
		{[]float64{greatest, greatest}, []float64{2, -2}, none, 0},
		{[]float64{greatest, greatest, 3}, []float64{greatest, -greatest, 5}, none, 15},
		{[]float64{greatest, -inf}, []float64{2, 1}, none, -inf},
		{[]float64{least, least}, []float64{0.5, 0.5}, 0, least},
		{[]float64{least, least}, []float64{-0.25, 0.25}, 0, 0},
		{[]float64{least, least}, []float64{least, -least}, 0, 0},
		{[]float64{-least}, []float64{least}, minus, minus},
		{[]float64{0}, []float64{-1}, minus, minus},
		{[]float64{0, minus}, []float64{minus, 3}, minus, minus},
		{[]float64{0, 0}, []float64{-1, 1}, 0, 0},
		{[]float64{0, 1, 1}, []float64{-1, 1, -1}, 0, 0},
		{[]float64{0}, []float64{inf}, none, none},
		{[]float64{1, 0}, []float64{none, 0}, none, none},
		{[]float64{1, 1}, []float64{inf, -inf}, none, none},
		{[]float64{inf, -inf}, []float64{1, -2}, inf, inf},
		{[]float64{-inf, 1}, []float64{least, greatest}, -inf, -inf},
		{[]float64{1 + 2*u, 1}, []float64{1 + 2*u, -1 - 4*u}, 0, 0x1p-104},
		{[]float64{0x1p600, 0x1p-600, -0x1p600}, []float64{0x1p600, 0x1p-600, 0x1p600}, none, 0},
		{[]float64{0x1p-537}, []float64{0x1p-537}, least, least},
		{[]float64{1, 0x1p-600}, []float64{least, -0x1p-600}, least, least},
		{[]float64{0.5, 0x1p-600}, []float64{3 * least, -0x1p-600}, 2 * least, least},
	} {
		wantsDot(t, c.a, c.b, c.dot, c.exact)
	}
}

// A product is rounded by itself, ahead of the sum.
func TestP95StepsAreNotFused(t *testing.T) {
	x := 1 + 0x1p-30
	wantsDot(t, []float64{-1 - 0x1p-29, x}, []float64{1, x}, 0, 0x1p-60)
	wantsDot(t, []float64{x, -1 - 0x1p-29}, []float64{x, 1}, 0, 0x1p-60)
}
