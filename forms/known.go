package forms

import (
	"numeral/api"
)

// Nought is the nought of either sign.
func Nought(f api.Form, neg bool) (uint64, api.Errno) {
	return known(f, neg, noughtParts)
}

// Inf is the infinity of either sign.
func Inf(f api.Form, neg bool) (uint64, api.Errno) {
	return known(f, neg, infParts)
}

// Greatest is the greatest finite float, with either sign.
func Greatest(f api.Form, neg bool) (uint64, api.Errno) {
	return known(f, neg, greatestParts)
}

// Normal is the least normal float, with either sign.
func Normal(f api.Form, neg bool) (uint64, api.Errno) {
	return known(f, neg, normalParts)
}

// Least is the least float above nought, with either sign.
func Least(f api.Form, neg bool) (uint64, api.Errno) {
	return known(f, neg, leastParts)
}

// NaN is what is no number, quiet, with a payload: ErrParts, if the form has not so many bits for it.
func NaN(f api.Form, neg bool, payload uint64) (uint64, api.Errno) {
	if e := Check(f); e != api.OK {
		return 0, e
	}
	quiet := quietBit(f)
	if payload >= quiet {
		return 0, api.ErrParts
	}
	quiet |= payload
	return join(f, api.Parts{Neg: neg, Exp: lastExp(f), Frac: quiet}), api.OK
}

// Payload is the payload of what is no number, and whether it is quiet: ErrArg, if it is a number.
func Payload(f api.Form, bits uint64) (payload uint64, quiet bool, e api.Errno) {
	kind, e := Class(f, bits)
	if e != api.OK {
		return 0, false, e
	}
	if kind != api.ClassNaN {
		return 0, false, api.ErrArg
	}
	frac := take(f, bits, fraction)
	payload = frac
	payload &^= quietBit(f)
	return payload, payload != frac, api.OK
}

// known is the float whose fields, but for its sign, are told by parts; that is asked only of a form that may be, as no other has fields.
func known(f api.Form, neg bool, parts func(api.Form) api.Parts) (uint64, api.Errno) {
	if e := Check(f); e != api.OK {
		return 0, e
	}
	p := parts(f)
	p.Neg = neg
	return join(f, p), api.OK
}

func noughtParts(api.Form) api.Parts { return api.Parts{} }

func infParts(f api.Form) api.Parts { return api.Parts{Exp: lastExp(f)} }

func greatestParts(f api.Form) api.Parts {
	return api.Parts{Exp: lastExp(f) - 1, Frac: full(f, fraction)}
}

func normalParts(api.Form) api.Parts { return api.Parts{Exp: 1} }

func leastParts(api.Form) api.Parts { return api.Parts{Frac: 1} }
