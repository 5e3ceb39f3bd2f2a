package exact

import (
	"numeral/api"
	"numeral/nat"
	"numeral/ratio"
)

// Ratio is the fraction that is worth as much: ErrMany, if its upper or its lower number would be too long.
func Ratio(d api.Dyadic) (api.Ratio, api.Errno) {
	if e := Check(d); e != api.OK {
		return api.Ratio{}, e
	}
	num, e := nat.Up(d.Mant, max(d.Exp, 0))
	if e != api.OK {
		return api.Ratio{}, e
	}
	den, e := nat.Up(nat.Of(1), max(-d.Exp, 0))
	if e != api.OK {
		return api.Ratio{}, e
	}
	// In lowest terms, as the upper number is odd, where the lower one is not 1.
	return api.Ratio{Neg: d.Neg, Num: num, Den: den}, api.OK
}

// Of is the dyadic that is worth r, if r's lower number is a power of two.
func Of(r api.Ratio) (api.Dyadic, bool, api.Errno) {
	if e := ratio.Check(r); e != api.OK {
		return api.Dyadic{}, false, e
	}
	length, e := nat.Bits(r.Den)
	if e != api.OK {
		return api.Dyadic{}, false, e
	}
	twos := twosIn(r.Den)
	if length > twos+1 {
		return api.Dyadic{}, false, api.OK
	}
	d, e := Make(r.Neg, r.Num, -twos)
	return d, e == api.OK, e
}
