package lex

import (
	"strconv"

	"numeral/api"
	"numeral/dec"
	"numeral/exact"
	"numeral/nat"
)

// Check tells whether a number may be.
func Check(n api.Number) api.Errno {
	switch n.Kind {
	case api.NumDec:
		if dec.Check(n.Dec) != api.OK || n.Dec.Neg != n.Neg {
			return api.ErrNumber
		}
		n.Dec = api.Dec{}
	case api.NumHex:
		if exact.Check(n.Hex) != api.OK || n.Hex.Neg != (n.Neg && !isNought(n.Hex)) {
			return api.ErrNumber
		}
		n.Hex = api.Dyadic{}
	case api.NumInf:
	case api.NumNaN:
		if n.Payload >= payloads {
			return api.ErrNumber
		}
		n.Payload = 0
	default:
		return api.ErrNumber
	}
	// What the kind names is gone by now: all that is left has to be zero.
	if n.Dec != (api.Dec{}) || n.Hex.Neg || n.Hex.Exp != 0 || !isNought(n.Hex) || n.Payload != 0 {
		return api.ErrNumber
	}
	return api.OK
}

// Text is a number's one text.
func Text(n api.Number) (string, api.Errno) {
	if e := Check(n); e != api.OK {
		return "", e
	}
	sign := ""
	if n.Neg {
		sign = "-"
	}
	switch n.Kind {
	case api.NumDec:
		return sign + decimalText(n.Dec), api.OK
	case api.NumHex:
		return sign + sixteensText(n.Hex), api.OK
	case api.NumInf:
		return sign + "inf", api.OK
	}
	if n.Payload == 0 {
		return sign + "nan", api.OK
	}
	return sign + "nan(" + strconv.FormatUint(n.Payload, 10) + ")", api.OK
}

func decimalText(d api.Dec) string {
	switch {
	case d.Digits == "":
		return "0"
	case d.Exp == 0:
		return d.Digits
	}
	return d.Digits + "e" + strconv.Itoa(d.Exp)
}

// sixteensText goes by the limbs themselves: a whole number at the limit can't be moved up to where its sixteens begin.
func sixteensText(d api.Dyadic) string {
	if isNought(d) {
		return "0x0p0"
	}
	bits, _ := nat.Bits(d.Mant) // d has been checked
	high := bits - 1
	text := []byte("0x1")
	if high > 0 {
		text = append(text, '.')
	}
	for low := high - 4; low > -4; low -= 4 {
		text = append(text, "0123456789abcdef"[fourBits(d.Mant.Limbs, low)])
	}
	return string(text) + "p" + strconv.Itoa(d.Exp+high)
}

// fourBits is the bits from low to low + 3 of a number whose highest bit is above them; those below bit 0 are noughts.
func fourBits(limbs []uint32, low int) uint32 {
	if low < 0 {
		return limbs[0] << -low & 15
	}
	limb, from := low/32, low%32
	four := limbs[limb] >> from
	if from > 28 {
		four |= limbs[limb+1] << (32 - from)
	}
	return four & 15
}

func isNought(d api.Dyadic) bool { return len(d.Mant.Limbs) == 0 }
