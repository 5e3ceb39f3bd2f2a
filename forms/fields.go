package forms

import (
	"numeral/api"
)

// field is the name of one of a float's fields; they are named from the lowest bits on, so that what is above a field is named behind it.
type field int

const (
	fraction field = iota
	exponent
	sign
	fields // how many there are
)

// width is how many bits a field has in the form f.
func width(f api.Form, w field) int {
	switch w {
	case fraction:
		return f.Frac
	case exponent:
		return f.Exp
	}
	return 1
}

// place is how many bits lie below a field in the form f.
func place(f api.Form, w field) int {
	switch w {
	case fraction:
		return 0
	case exponent:
		return f.Frac
	}
	return f.Frac + f.Exp
}

// full is the greatest number that a field holds: all its bits set.
func full(f api.Form, w field) uint64 {
	n := uint64(1)
	n <<= width(f, w)
	n--
	return n
}

// mask is all bits of a field, where they stand.
func mask(f api.Form, w field) uint64 {
	m := full(f, w)
	m <<= place(f, w)
	return m
}

// take is the number that a field holds.
func take(f api.Form, bits uint64, w field) uint64 {
	for above := w + 1; above < fields; above++ {
		bits &^= mask(f, above)
	}
	bits >>= place(f, w)
	return bits
}

// put answers the bits with n in a field, whatever was there; n must not be more than the field holds.
func put(f api.Form, bits uint64, w field, n uint64) uint64 {
	bits &^= mask(f, w)
	n <<= place(f, w)
	bits |= n
	return bits
}

// split is the fields of bits that are a float of the form f.
func split(f api.Form, bits uint64) api.Parts {
	return api.Parts{
		Neg:  take(f, bits, sign) == 1,
		Exp:  int(take(f, bits, exponent)),
		Frac: take(f, bits, fraction),
	}
}

// join is the bits with fields that the form f has.
func join(f api.Form, p api.Parts) uint64 {
	bits := put(f, 0, exponent, uint64(p.Exp))
	bits = put(f, bits, fraction, p.Frac)
	if p.Neg {
		bits = put(f, bits, sign, 1)
	}
	return bits
}

// lastExp is the exponent, as a field, of infinity and of what is no number.
func lastExp(f api.Form) int {
	return int(full(f, exponent))
}

// quietBit is the fraction's highest bit, which tells of what is no number whether it is quiet.
func quietBit(f api.Form) uint64 {
	q := uint64(1)
	q <<= f.Frac - 1
	return q
}

// bias is what an exponent's field is above the exponent that it means.
func bias(f api.Form) int {
	b := 1
	b <<= f.Exp - 1
	b--
	return b
}
