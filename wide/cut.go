package wide

import (
	"numeral/api"
	"numeral/power"
)

// mostDigits is so many that every whole number of so many digits fits 64 bits, and one more too.
const mostDigits = 19

// ten is a power of ten: the 128 bits hi, lo times 2^exp, if it is whole; else it lies between that and the 128 bits and one, times 2^exp.
type ten struct {
	hi, lo uint64
	exp    int
	whole  bool
}

// tenOf is 10 to the power of k; false, if that is not kept.
func tenOf(k int) (ten, bool) {
	hi, lo, exp, e := power.Ten(k)
	if e != api.OK {
		return ten{}, false
	}
	whole, e := power.Whole(k)
	return ten{hi, lo, exp, whole}, e == api.OK
}

// below is the lower end of the power, m times.
func (t ten) below(m uint64) api.Dyadic { return product(m, t.hi, t.lo).dyadic(t.exp) }

// above is its upper end.
func (t ten) above(m uint64) api.Dyadic {
	if t.whole {
		return t.below(m)
	}
	// The 128 bits and one, m times, are m more.
	return product(m, t.hi, t.lo).plus(m).dyadic(t.exp)
}

// cut is a decimal, not nought, without its sign, whose digits are cut behind the first 19: the first ones as a whole number, times the power of ten, and something, if there are more.
type cut struct {
	ten
	first uint64
	more  bool
}

// cutOf is of a decimal that may be and is not nought; false, if its power of ten is not kept.
func cutOf(d api.Dec) (cut, bool) {
	size := min(len(d.Digits), mostDigits)
	further := len(d.Digits) - size
	t, ok := tenOf(d.Exp + further)
	return cut{ten: t, first: number(d.Digits[:size]), more: further > 0}, ok
}

// least is the lower end of what the decimal may be worth.
func (c cut) least() api.Dyadic { return c.below(c.first) }

// most is the upper end.
func (c cut) most() api.Dyadic {
	if c.more {
		return c.above(c.first + 1)
	}
	return c.above(c.first)
}

// number is what digits say.
func number(digits string) uint64 {
	n := uint64(0)
	for i := range len(digits) {
		n = 10*n + uint64(digits[i]-'0')
	}
	return n
}
