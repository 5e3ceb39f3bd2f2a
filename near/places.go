package near

import (
	"numeral/api"
	"numeral/forms"
)

// spot is a place: on which side of nought it lies, 1 below, else 0, and how many places it is from nought. As both noughts are one place, they have one spot, where their bits differ.
type spot [2]uint64

// spotOf is the place of a float that is a number: the worths rise with the bits.
func spotOf(f api.Form, bits uint64) spot {
	far := bits &^ signBit(f)
	if far == 0 {
		return spot{}
	}
	return spot{bits >> (f.Exp + f.Frac), far}
}

// place is the spot's number in the row of places: nought's is 0.
func (s spot) place() int64 {
	if s[0] == 0 {
		return int64(s[1])
	}
	// Nought less s[1] wraps round, and is below nought as a number with a sign.
	return int64(-s[1])
}

// at is the float at a place; neg is the sign of nought.
func at(f api.Form, place int64, neg bool) uint64 {
	if place < 0 || place == 0 && neg {
		return signBit(f) - uint64(place)
	}
	return uint64(place)
}

// row is the number of bits in the row of all bits: nought's is 0, minus nought's -1.
func row(f api.Form, bits uint64) int64 {
	sign := signBit(f)
	if bits < sign {
		return int64(bits)
	}
	// As in place, but for one, as here minus nought is ahead of nought.
	return int64(sign - bits - 1)
}

// beside is the float at the next place upward, or downward.
func beside(f api.Form, bits uint64, down bool) (uint64, api.Errno) {
	if e := check(f, bits); e != api.OK {
		return 0, e
	}
	if !numbers(f, bits) {
		return 0, api.ErrArg
	}
	end, e := forms.Inf(f, down)
	if e != api.OK {
		return 0, e
	}
	here := spotOf(f, bits)
	if here == spotOf(f, end) {
		return 0, api.ErrStep
	}
	// Which nought it is counts just where the step ends at nought: the one on the side from which the step comes.
	neg := here[0] == 1
	if down {
		return at(f, here.place()-1, neg), api.OK
	}
	return at(f, here.place()+1, neg), api.OK
}

// signBit is the bit that floats below nought have set.
func signBit(f api.Form) uint64 { return 1 << (f.Exp + f.Frac) }
