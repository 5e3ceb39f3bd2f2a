package dec

import (
	"testing"

	"numeral/api"
)

type binary struct {
	name string
	do   func(a, b api.Dec) (bool, api.Errno)
}

// binaries tell whether all that they answer beside the error is zero.
func binaries() []binary {
	return []binary{
		{"Cmp", func(a, b api.Dec) (bool, api.Errno) {
			n, e := Cmp(a, b)
			return n == 0, e
		}},
		{"Add", func(a, b api.Dec) (bool, api.Errno) {
			d, e := Add(a, b)
			return d == api.Dec{}, e
		}},
		{"Mul", func(a, b api.Dec) (bool, api.Errno) {
			d, e := Mul(a, b)
			return d == api.Dec{}, e
		}},
	}
}

// Decimals that may not be come from the left, ahead of noughts and of what would be too long.
func TestP101WrongDecimalsOfTwo(t *testing.T) {
	all := wrongDecimals()
	for _, c := range binaries() {
		refused := func(what string, a, b api.Dec, want api.Errno) {
			t.Helper()
			if zero, e := c.do(a, b); !zero || e != want {
				t.Errorf("%s of %s: all zero: %v, error %d; want %d", c.name, what, zero, int(e), int(want))
			}
		}
		for _, w := range all {
			for _, good := range []api.Dec{{}, {Neg: true}, dc("-1", 0), dc("9", far), dc("1", -far)} {
				refused(w.what+", first", w.d, good, w.e)
				refused(w.what+", second", good, w.d, w.e)
			}
			for _, other := range all {
				refused(w.what+" and "+other.what, w.d, other.d, w.e)
			}
		}
	}
}

// A decimal that may not be comes ahead of all that a count, or the size of an answer, would do. (Round, Places and the texts have tests of their own.)
func TestP101WrongDecimalsOfOne(t *testing.T) {
	for _, w := range wrongDecimals() {
		r, e := Ratio(w.d)
		wantsRatio(t, "Ratio of "+w.what, r, e, api.Ratio{}, w.e)
		for _, n := range farInts() {
			d, e := Shift(w.d, n)
			wants(t, "Shift of "+w.what, d, e, api.Dec{}, w.e)
		}
	}
}
