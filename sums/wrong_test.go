package sums

import (
	"math"
	"testing"

	"numeral/api"
)

// wantsError wants it, and nothing beside it.
func wantsError(t *testing.T, what string, got float64, e, want api.Errno) {
	t.Helper()
	if e != want || math.Float64bits(got) != 0 {
		t.Errorf("%s: %v, error %d; want the error %d", what, got, int(e), int(want))
	}
}

// filled is a list of so many floats that are no nought, so that a sum that was worked out would be seen.
func filled(n int) []float64 {
	l := make([]float64, n)
	for i := range l {
		l[i] = -2
	}
	return l
}

// Too long a list, in either place, comes ahead of unlike lengths.
func TestP95Errors(t *testing.T) {
	const most = api.MaxList
	for _, c := range []struct {
		a, b int
		want api.Errno
	}{
		{1, 0, api.ErrArg},
		{0, 1, api.ErrArg},
		{1, 2, api.ErrArg},
		{most, most - 1, api.ErrArg},
		{0, most, api.ErrArg},
		{most + 1, most + 1, api.ErrMany},
		{most + 1, most, api.ErrMany},
		{most, most + 1, api.ErrMany},
		{most + 1, 0, api.ErrMany},
		{0, most + 1, api.ErrMany},
		{most + 1, 2 * most, api.ErrMany},
	} {
		a, b := filled(c.a), filled(c.b)
		got, e := Dot(a, b)
		wantsError(t, "Dot", got, e, c.want)
		got, e = DotExact(a, b)
		wantsError(t, "DotExact", got, e, c.want)
	}
}

// Whatever the floats are, the lengths tell the error.
func TestP95ErrorsOfEdges(t *testing.T) {
	for _, x := range edges() {
		got, e := Dot([]float64{x}, nil)
		wantsError(t, "Dot of one and none", got, e, api.ErrArg)
		got, e = DotExact([]float64{x, x}, []float64{x})
		wantsError(t, "DotExact of two and one", got, e, api.ErrArg)
	}
}

func TestP96Errors(t *testing.T) {
	for _, l := range [][]float64{nil, {}, make([]float64, 0, 5)} {
		got, e := Mean(l)
		wantsError(t, "Mean of nothing", got, e, api.ErrArg)
	}
	long := filled(api.MaxList + 1)
	got, e := Mean(long)
	wantsError(t, "Mean of too many", got, e, api.ErrMany)
	long[5] = none
	got, e = Mean(long)
	wantsError(t, "Mean of too many with what is no number", got, e, api.ErrMany)
}

// Just as many as may be.
func TestP95AndP96AtTheLimit(t *testing.T) {
	l := filled(api.MaxList)
	if got, e := Mean(l); got != -2 || e != api.OK {
		t.Errorf("Mean of MaxList floats: %v, error %d", got, int(e))
	}
	if got, e := Dot(l, l); got != 4*api.MaxList || e != api.OK {
		t.Errorf("Dot of MaxList floats: %v, error %d", got, int(e))
	}
	if got, e := DotExact(l, l); got != 4*api.MaxList || e != api.OK {
		t.Errorf("DotExact of MaxList floats: %v, error %d", got, int(e))
	}
}
