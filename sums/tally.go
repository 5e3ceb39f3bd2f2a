package sums

import (
	"math"

	"numeral/api"
	"numeral/exact"
	"numeral/forms"
	"numeral/ratio"
	"numeral/round"
	"numeral/steps"
	"numeral/turn"
)

// tally is what some terms come to, nothing rounded. It does its calls one behind another and asks for no error, as none comes: no sum of floats, or of products of two, has nearly as many bits as a whole number may have.
type tally struct {
	steps.Run
	sum  api.Dyadic // of what the numbers are worth
	edge float64    // Go's own sum of what is infinite, no number or nought, with a nought for each other number: so it tells the first two, or, if the sum is nought, which nought
}

// newTally is one for so many terms. Where there is one, it begins with minus nought, which leaves every float that is added to it as that is.
func newTally(terms int) tally {
	if terms == 0 {
		return tally{}
	}
	return tally{edge: math.Copysign(0, -1)}
}

// tallyOf is what some floats come to.
func tallyOf(l []float64) tally {
	t := newTally(len(l))
	for i := range len(l) {
		t.addFloat(l[i])
	}
	return t
}

func (t *tally) addFloat(x float64) {
	if isEdge(x) {
		t.edge += x
		return
	}
	t.addNumber(t.worth(x))
}

// addProduct adds a product that is not rounded: where no factor is an edge, Go's own may overflow, or be nought.
func (t *tally) addProduct(a, b float64) {
	if isEdge(a) || isEdge(b) {
		t.edge += float64(a * b)
		return
	}
	t.addNumber(t.Dyadic(exact.Mul(t.worth(a), t.worth(b))))
}

// addNumber adds what is not nought. If the sum is nought in the end, it is one without a minus.
func (t *tally) addNumber(d api.Dyadic) {
	t.edge += 0
	t.sum = t.Dyadic(exact.Add(t.sum, d))
}

func (t *tally) worth(x float64) api.Dyadic {
	return t.Dyadic(exact.Value(forms.Double(), turn.Bits(x)))
}

// rounded is the sum times a factor that is not below nought, rounded once.
func (t *tally) rounded(factor api.Ratio, mode uint8) float64 {
	if !isFinite(t.edge) {
		return t.edge
	}
	product := t.Ratio(ratio.Mul(t.Ratio(exact.Ratio(t.sum)), factor))
	bits, _, _ := round.Ratio(forms.Double(), product, math.Signbit(t.edge), mode)
	v, _ := turn.From[float64](forms.Double(), bits)
	return v
}

// isEdge is whether a float is nought, infinite or no number.
func isEdge(x float64) bool { return x == 0 || !isFinite(x) }

func isFinite(x float64) bool { return !math.IsNaN(x) && !math.IsInf(x, 0) }
