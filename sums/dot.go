package sums

import (
	"numeral/api"
	"numeral/ratio"
)

// Dot is the sum of the products, each rounded, from the left.
func Dot(a, b []float64) (float64, api.Errno) {
	if e := checkPairs(a, b); e != api.OK {
		return 0, e
	}
	products := make([]float64, len(a))
	for i := range len(a) {
		products[i] = float64(a[i] * b[i])
	}
	return Plain(products), api.OK
}

// DotExact is the sum of the products, rounded once.
func DotExact(a, b []float64) (float64, api.Errno) {
	if e := checkPairs(a, b); e != api.OK {
		return 0, e
	}
	t := newTally(len(a))
	for i := range len(a) {
		t.addProduct(a[i], b[i])
	}
	return t.rounded(ratio.Whole(1), api.Even), api.OK
}

// checkPairs tells whether two lists may be, and are as long as each other.
func checkPairs(a, b []float64) api.Errno {
	switch {
	case len(a) > api.MaxList || len(b) > api.MaxList:
		return api.ErrMany
	case len(a) != len(b):
		return api.ErrArg
	}
	return api.OK
}
