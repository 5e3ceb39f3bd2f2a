package dec

import (
	"strconv"

	"numeral/api"
)

// Plain is a text of d without an exponent.
func Plain(d api.Dec) (string, api.Errno) {
	if e := Check(d); e != api.OK {
		return "", e
	}
	sign, digits := signAndDigits(d)
	whole := max(len(digits)+d.Exp, 1) // how many digits stand ahead of the point
	size := len(sign) + whole
	if d.Exp < 0 {
		size += len(".") - d.Exp
	}
	if size > api.MaxText {
		return "", api.ErrMany
	}
	text := noughts(size)
	at := copy(text, sign)
	if d.Exp >= 0 {
		copy(text[at:], digits)
		return string(text), api.OK
	}
	own := max(len(digits)+d.Exp, 0) // how many of its own digits these are
	copy(text[at:], digits[:own])
	text[at+whole] = '.'
	copy(text[size-len(digits[own:]):], digits[own:])
	return string(text), api.OK
}

// Scientific is a text of d with one digit ahead of the point, and with an exponent.
func Scientific(d api.Dec) (string, api.Errno) {
	if e := Check(d); e != api.OK {
		return "", e
	}
	sign, digits := signAndDigits(d)
	text := sign + digits[:1]
	if len(digits) > 1 {
		text += "." + digits[1:]
	}
	return text + "e" + strconv.Itoa(d.Exp+len(digits)-1), api.OK
}

// signAndDigits is how both are told; nought has one digit there.
func signAndDigits(d api.Dec) (sign, digits string) {
	digits = d.Digits
	if isNought(d) {
		digits = "0"
	}
	if d.Neg {
		sign = "-"
	}
	return sign, digits
}
