package sure

import (
	"math/bits"

	"numeral/api"
	"numeral/forms"
	"numeral/power"
)

// number is a finite float: its worth and both ends of its reach by Even, without its sign, in quarters of its last place, of which all three are whole numbers. Of nought just the sign is told.
type number struct {
	neg              bool
	low, worth, high uint64
	exp              int  // a quarter is 2 to the power of exp
	closed           bool // both ends are in the reach; else none is
}

// numberOf is the number of a float: ErrForm, ErrBits, ErrFinite.
func numberOf(f api.Form, bits uint64) (number, api.Errno) {
	class, e := forms.Class(f, bits)
	if e != api.OK {
		return number{}, e
	}
	// What has a class has a form that may be and fields: no error from here on.
	p, _ := forms.Split(f, bits)
	switch class {
	case api.ClassInf, api.ClassNaN:
		return number{}, api.ErrFinite
	case api.ClassZero:
		return number{neg: p.Neg}, api.OK
	}
	least, _, _ := forms.Range(f)
	steps := p.Frac
	if class == api.ClassNormal {
		steps |= 1 << f.Frac
	}
	return number{
		neg:    p.Neg,
		low:    4*steps - below(p),
		worth:  4 * steps,
		high:   4*steps + 2,
		exp:    least + max(p.Exp, 1) - 3, // two less for the quarters; the least normal floats stand with the subnormal ones
		closed: p.Frac%2 == 0,
	}, api.OK
}

// below is how far the reach of the float with the fields p goes below it, in quarters of its last place: half the way to the next float, and below a power of two floats lie twice as close, but below the least normal one.
func below(p api.Parts) uint64 {
	if p.Frac == 0 && p.Exp > 1 {
		return 1
	}
	return 2
}

// first is the power of ten at which the first digit stands: the greatest one that is not above the number.
func (n number) first() int {
	p := tensOf(n.exp + bits.Len64(n.worth) - 1)
	// From 2^k up to 2^(k+1) there is room for one more power of ten.
	if n.reaches(tenOf(p + 1)) {
		return p + 1
	}
	return p
}

// reaches tells whether the number is not below a power of ten.
func (n number) reaches(t ten) bool {
	ahead := bits.LeadingZeros64(n.worth)
	top := [2]uint64{n.worth << ahead, 0}
	exp := n.exp - ahead - 64
	switch {
	case exp != t.exp:
		return exp > t.exp
	case top == t.top:
		return t.whole
	}
	// Where just the lower words differ, the number's, which is 0, is less.
	return top[0] > t.top[0]
}

// tensOf is the greatest power of ten that is not above 2 to the power of n. No exponent of a float is beyond what power.Two takes.
func tensOf(n int) int {
	if n < 0 {
		// 2 to the power of -n has so many digits, and is no power of ten.
		digits, _ := power.Two(-n)
		return -digits
	}
	digits, _ := power.Two(n)
	return digits - 1
}
