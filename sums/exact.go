package sums

import (
	"math"

	"numeral/api"
	"numeral/ratio"
)

// Exact is the sum, rounded once.
func Exact(l []float64) float64 {
	t := tallyOf(l)
	return t.rounded(ratio.Whole(1), api.Even)
}

// Mean is the exact sum over how many floats there are, rounded once: ErrArg, if there is none.
func Mean(l []float64) (float64, api.Errno) {
	if len(l) > api.MaxList {
		return 0, api.ErrMany
	}
	if len(l) == 0 {
		return 0, api.ErrArg
	}
	t := tallyOf(l)
	share := t.Ratio(ratio.Div(ratio.Whole(1), ratio.Whole(len(l))))
	return t.rounded(share, api.Even), api.OK
}

// Bound is how far Plain can be from the sum of what the floats are worth at the most, rounded up.
func Bound(l []float64) float64 {
	t := newTally(len(l))
	for i := range len(l) {
		t.addFloat(math.Abs(l[i]))
	}
	switch {
	case math.IsNaN(t.edge):
		// Without their signs, infinite ones alone come to none such.
		return t.edge
	case !isFinite(Plain(l)):
		return math.Inf(1)
	}
	return t.rounded(t.lossOf(max(len(l)-1, 0)), api.Up)
}

// lossOf is how much of the floats without their signs so many steps lose at the most: k over 1 - k, where k counts 2^-53, what one step loses of its own sum, for each.
func (t *tally) lossOf(steps int) api.Ratio {
	k := t.Ratio(ratio.Scale(ratio.Whole(steps), 2, -53))
	return t.Ratio(ratio.Div(k, t.Ratio(ratio.Sub(ratio.Whole(1), k))))
}
