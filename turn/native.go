package turn

import (
	"math"

	"numeral/api"
	"numeral/forms"
)

// Float is any native float.
type Float interface{ ~float32 | ~float64 }

// Whole is any native whole number.
type Whole interface {
	~int | ~int8 | ~int16 | ~int32 | ~int64 | ~uint | ~uint8 | ~uint16 | ~uint32 | ~uint64
}

// Form is the form of a native float, which its type tells alone.
func Form[T Float](v T) api.Form {
	if isSingle(v) {
		return forms.Single()
	}
	return forms.Double()
}

// isSingle holds the type against the least whole number that no float32 is.
func isSingle[T Float](T) bool {
	odd := float64(1<<24 + 1)
	return float64(T(odd)) != odd
}

// Bits are a native float's in its form; whatever is no number is The NaN.
func Bits[T Float](v T) uint64 {
	if v != v {
		// Both forms may be, and have this payload: no error comes here.
		nan, _ := forms.NaN(Form(v), false, 0)
		return nan
	}
	if isSingle(v) {
		return uint64(math.Float32bits(float32(v)))
	}
	return math.Float64bits(float64(v))
}

// From is the native float to which bits of any form are turned, to the nearest.
func From[T Float](f api.Form, bits uint64) (T, api.Errno) {
	var v T
	turned, _, e := To(f, Form(v), bits, api.Even)
	if e != api.OK {
		return 0, e
	}
	if isSingle(v) {
		return T(math.Float32frombits(uint32(turned))), api.OK
	}
	return T(math.Float64frombits(turned)), api.OK
}

// Same tells whether two native floats are the same: noughts by their signs, and all that is no number.
func Same[T Float](a, b T) bool { return Bits(a) == Bits(b) }

// Narrow is Go's own conversion, to the nearest.
func Narrow(v float64) float32 { return float32(v) }

// Widen is Go's own conversion, which keeps the worth.
func Widen(v float32) float64 { return float64(v) }

// Cut is a native float as a native whole number, toward nought, if its type has that number.
func Cut[F Float, W Whole](v F) (W, bool) {
	x := float64(v)
	switch {
	// Go's conversions cut, but are sure only behind such comparisons; what is no number passes none.
	case -1<<63 <= x && x < 1<<63:
		return fit[W](int64(x))
	case 1<<63 <= x && x < 1<<64:
		return fit[W](uint64(x))
	}
	return 0, false
}

// fit is a whole number of one type as one of another, if that has it. Two numbers that wrap round to each other may be apart by their signs alone.
func fit[W, N Whole](n N) (W, bool) {
	w := W(n)
	if N(w) != n || (w < 0) != (n < 0) {
		return 0, false
	}
	return w, true
}

// Near is a native whole number as a native float, to the nearest.
func Near[F Float, W Whole](n W) F { return F(n) }
