package exact

import (
	"numeral/api"
	"numeral/forms"
	"numeral/nat"
)

// Value is what a finite float is worth: ErrFinite, if it is infinite or no number.
func Value(f api.Form, bits uint64) (api.Dyadic, api.Errno) {
	class, e := forms.Class(f, bits)
	if e != api.OK {
		return api.Dyadic{}, e
	}
	p, e := forms.Split(f, bits)
	if e != api.OK {
		return api.Dyadic{}, e
	}
	exp, _, e := forms.Range(f)
	if e != api.OK {
		return api.Dyadic{}, e
	}
	return worth(class, p, 1<<f.Frac, exp)
}

// worth is what the float of a class with the fields p is worth. What comes in as hidden is the bit that normal floats have ahead of their fraction, though it is not written; what comes in as exp is the exponent of the least float, which subnormal ones are told by.
func worth(class uint8, p api.Parts, hidden uint64, exp int) (d api.Dyadic, e api.Errno) {
	number := p.Frac
	switch class {
	case api.ClassNormal:
		number |= hidden
		exp += p.Exp - 1
		fallthrough
	case api.ClassSmall:
		d, e = Make(p.Neg, nat.Of(number), exp)
		fallthrough
	case api.ClassZero:
		return d, e
	}
	return api.Dyadic{}, api.ErrFinite
}

// Bits is the float that is worth d, if there is one: of nought the one without a sign.
func Bits(f api.Form, d api.Dyadic) (uint64, bool, api.Errno) {
	least, greatest, e := forms.Range(f)
	if e != api.OK {
		return 0, false, e
	}
	if e := Check(d); e != api.OK {
		return 0, false, e
	}
	length, e := nat.Bits(d.Mant)
	if e != api.OK {
		return 0, false, e
	}
	if length == 0 {
		return 0, true, api.OK
	}
	// first and last are the exponents of the first bit that d has and of the last one that a float with that first bit can have.
	first := d.Exp + length - 1
	last := max(least, first-f.Frac)
	if first > greatest || d.Exp < last {
		return 0, false, api.OK
	}
	number, _ := nat.Low(d.Mant)
	number <<= d.Exp - last
	bits, e := forms.Join(f, fields(d.Neg, number, last-least, f.Frac))
	return bits, e == api.OK, e
}

// fields are those of the float that is worth number times 2 to the power of steps, in units of the least float. Just the normal ones have a bit ahead of their fraction, and it counts one in the exponent.
func fields(neg bool, number uint64, steps, frac int) api.Parts {
	hidden := number >> frac
	return api.Parts{Neg: neg, Exp: steps + int(hidden), Frac: number - hidden<<frac}
}
