package sums

import (
	"math"
	"testing"

	"numeral/api"
)

// Every row of the chapter's Examples.

func TestExamplesOfOrders(t *testing.T) {
	for _, c := range []struct {
		l                                          []float64
		plain, back, pairs, kahan, neumaier, exact float64
	}{
		{[]float64{1, u, u}, 1, 1 + 2*u, 1 + 2*u, 1 + 2*u, 1 + 2*u, 1 + 2*u},
		{[]float64{1, 0x1p100, 1, -0x1p100}, 0, 1, 0, 0, 2, 2},
	} {
		wants(t, "Plain", c.l, Plain(c.l), c.plain)
		wants(t, "Back", c.l, Back(c.l), c.back)
		wants(t, "Pairs", c.l, Pairs(c.l), c.pairs)
		wants(t, "Kahan", c.l, Kahan(c.l), c.kahan)
		wants(t, "Neumaier", c.l, Neumaier(c.l), c.neumaier)
		wants(t, "Exact", c.l, Exact(c.l), c.exact)
	}
}

func TestExamplesOfSums(t *testing.T) {
	for _, c := range []struct {
		what string
		sum  func(l []float64) float64
		l    []float64
		want float64
	}{
		{"Rising", Rising, []float64{0x1p60, -1, 1}, 0x1p60},
		{"Rising", Rising, []float64{1, 0x1p60, -0x1p60}, 0},
		{"Plain", Plain, []float64{greatest, greatest, -greatest}, inf},
		{"Exact", Exact, []float64{greatest, greatest, -greatest}, greatest},
		{"Back", Back, []float64{greatest, greatest, -greatest}, greatest},
		{"Plain", Plain, nil, 0},
		{"Plain", Plain, []float64{minus}, minus},
		{"Exact", Exact, []float64{minus, minus}, minus},
		{"Exact", Exact, []float64{minus, 0}, 0},
		{"Exact", Exact, []float64{1, -1}, 0},
		{"Exact", Exact, []float64{inf, 1, -inf}, none},
		{"Exact", Exact, []float64{none, inf}, none},
		{"Bound", Bound, []float64{1}, 0},
		{"Bound", Bound, []float64{1, 1}, math.Nextafter(0x1p-52, 1)},
		{"Bound", Bound, []float64{greatest, greatest}, inf},
	} {
		wants(t, c.what, c.l, c.sum(c.l), c.want)
	}
}

func TestExamplesOfTwo(t *testing.T) {
	for _, c := range []struct {
		what               string
		two                func(a, b float64) (float64, float64)
		a, b, answer, lost float64
	}{
		{"TwoSum", TwoSum, 1, u, 1, u},
		{"TwoSum", TwoSum, greatest, greatest, inf, 0},
		{"TwoSum", TwoSum, 0, minus, 0, 0},
		{"TwoProd", TwoProd, 1 + 0x1p-30, 1 + 0x1p-30, 1 + 0x1p-29, 0x1p-60},
		{"TwoProd", TwoProd, least, 0.5, 0, 0},
		{"TwoProd", TwoProd, -least, 0.25, minus, minus},
	} {
		if answer, lost := c.two(c.a, c.b); !same(answer, c.answer) || !same(lost, c.lost) {
			t.Errorf("%s(%v, %v): %v lost %v; want %v lost %v", c.what, c.a, c.b, answer, lost, c.answer, c.lost)
		}
	}
}

func TestExamplesOfDotAndMean(t *testing.T) {
	if got, e := Dot([]float64{1, 2}, []float64{3, 4}); got != 11 || e != api.OK {
		t.Errorf("Dot(1 2, 3 4): %v, error %d", got, int(e))
	}
	got, e := Dot([]float64{1}, []float64{1, 2})
	wantsError(t, "Dot(1, 1 2)", got, e, api.ErrArg)
	if got, e := DotExact([]float64{greatest, 1}, []float64{2, -1}); got != inf || e != api.OK {
		t.Errorf("DotExact(M 1, 2 -1): %v, error %d", got, int(e))
	}
	if got, e := DotExact([]float64{0}, []float64{-1}); !same(got, minus) || e != api.OK {
		t.Errorf("DotExact(0, -1): %v, error %d", got, int(e))
	}
	wantsMean(t, []float64{1, 2}, 1.5)
	got, e = Mean(nil)
	wantsError(t, "Mean of nothing", got, e, api.ErrArg)
	wantsMean(t, []float64{greatest, greatest}, greatest)
}
