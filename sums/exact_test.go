package sums

import (
	"math/big"
	"slices"
	"testing"

	"numeral/api"
)

// exactWant is the exact sum by its words.
func exactWant(l []float64) float64 {
	if v, is := whatEdgesSay(l); is {
		return v
	}
	return nearest(sumOf(l), areMinusNoughts(l))
}

func TestP93Exact(t *testing.T) {
	eachList(931, func(l []float64) { wants(t, "Exact", l, Exact(l), exactWant(l)) })
}

func TestP93Edges(t *testing.T) {
	for _, c := range []struct {
		l    []float64
		want float64
	}{
		{nil, 0},
		{[]float64{minus, minus, minus}, minus},
		{[]float64{minus, 0}, 0},
		{[]float64{0, minus}, 0},
		{[]float64{minus, 1, -1}, 0},
		{[]float64{minus, -1, 1, minus}, 0},
		{[]float64{1, minus}, 1},
		{[]float64{inf, inf, -greatest}, inf},
		{[]float64{-inf, minus, greatest}, -inf},
		{[]float64{inf, 1, -inf}, none},
		{[]float64{none, inf}, none},
		{[]float64{none, minus}, none},
		{[]float64{greatest, greatest, -greatest}, greatest},
		{[]float64{greatest, greatest, -greatest, -greatest}, 0},
		{[]float64{greatest, greatest, -greatest, -greatest, -least}, -least},
		{[]float64{greatest, greatest}, inf},
		{[]float64{-greatest, -greatest}, -inf},
		{[]float64{greatest, 0x1p969}, greatest},
		{[]float64{greatest, 0x1p970}, inf},
		{[]float64{greatest, 0x1p970, -least}, greatest},
		{[]float64{-greatest, -0x1p970, least}, -greatest},
		{[]float64{1, u}, 1},
		{[]float64{1, u, least}, 1 + 2*u},
		{[]float64{1, u, -least}, 1},
		{[]float64{1 + 2*u, u}, 1 + 4*u},
		{[]float64{1 + 2*u, u, -least}, 1 + 2*u},
		{[]float64{least, least, least}, 3 * least},
		{[]float64{normal, -least}, normal - least},
	} {
		wants(t, "Exact", c.l, Exact(c.l), c.want)
	}
}

// Numbers that cancel but for one, whatever it is.
func TestP93SumsThatCancel(t *testing.T) {
	r := source(932)
	for range 500 {
		half := someList(r, 30)
		l := slices.Clone(half)
		for _, x := range half {
			l = append(l, -x)
		}
		last := kinds()[r.IntN(8)](r)
		l = shuffled(r, append(l, last))
		wants(t, "Exact", l, Exact(l), exactWant(l))
		if _, is := whatEdgesSay(l); !is && Exact(l) != last {
			t.Errorf("Exact(%v): %v, want %v", l, Exact(l), last)
		}
	}
}

func meanWant(l []float64) float64 {
	if v, is := whatEdgesSay(l); is {
		return v
	}
	return nearest(times(sumOf(l), big.NewRat(1, int64(len(l)))), areMinusNoughts(l))
}

func wantsMean(t *testing.T, l []float64, want float64) {
	t.Helper()
	if got, e := Mean(l); !same(got, want) || e != api.OK {
		t.Errorf("Mean(%v): %v, error %d; want %v", l, got, int(e), want)
	}
}

func TestP96Mean(t *testing.T) {
	eachList(961, func(l []float64) {
		if len(l) > 0 {
			wantsMean(t, l, meanWant(l))
		}
	})
}

func TestP96Edges(t *testing.T) {
	for _, c := range []struct {
		l    []float64
		want float64
	}{
		{[]float64{1, 2}, 1.5},
		{[]float64{1, 1, 2}, 4.0 / 3},
		{[]float64{greatest, greatest}, greatest},
		{[]float64{-greatest, -greatest, -greatest}, -greatest},
		{[]float64{greatest, greatest, -greatest}, greatest / 3},
		{[]float64{least, 0}, 0},
		{[]float64{-least, 0}, minus},
		{[]float64{-least, 0, 0}, minus},
		{[]float64{least, minus, minus}, 0},
		{[]float64{least, least, 0}, least},
		{[]float64{least, least, least, 0}, least},
		{[]float64{3 * least, 0}, 2 * least},
		{[]float64{1, -1}, 0},
		{[]float64{minus, minus}, minus},
		{[]float64{minus, 0}, 0},
		{[]float64{minus}, minus},
		{[]float64{inf, 1}, inf},
		{[]float64{1, -inf, -inf}, -inf},
		{[]float64{inf, -inf}, none},
		{[]float64{none, inf}, none},
		{[]float64{1, 1 + 2*u}, 1},
		{[]float64{1 + 2*u, 1 + 4*u}, 1 + 4*u},
	} {
		wantsMean(t, c.l, c.want)
	}
}

// A mean of sums that are rounded ahead is another one.
func TestP96IsRoundedOnce(t *testing.T) {
	r := source(962)
	other := 0
	for range 2000 {
		l := []float64{r.NormFloat64(), r.NormFloat64(), r.NormFloat64()}
		got, _ := Mean(l)
		wantsMean(t, l, meanWant(l))
		if got != Exact(l)/3 {
			other++
		}
	}
	if other == 0 {
		t.Error("Mean is never other than Exact over 3")
	}
}
