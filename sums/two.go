package sums

import "math"

// TwoSum is a sum and what it lost, which is always a float.
func TwoSum(a, b float64) (s, lost float64) {
	s = a + b
	if !isFinite(s) {
		return s, 0
	}
	// With the one farther from nought ahead both differences are exact, and neither overflows.
	if math.Abs(a) < math.Abs(b) {
		a, b = b, a
	}
	lost = b - (s - a)
	if lost == 0 {
		// Less nought, minus nought keeps its sign.
		return s, 0
	}
	return s, lost
}

// TwoProd is a product and what it lost, rounded once.
func TwoProd(a, b float64) (p, lost float64) {
	p = float64(a * b)
	if !isFinite(p) {
		return p, 0
	}
	return p, math.FMA(a, b, -p)
}
