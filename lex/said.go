package lex

import (
	"bytes"

	"numeral/api"
	"numeral/dec"
	"numeral/exact"
)

// payloads is how many payloads there are: those of the greatest form.
const payloads = 1 << 51

// beyond is an exponent that stays beyond MaxExp however the digits of a text move it: none of them moves it by more than four.
const beyond = api.MaxExp + 4*api.MaxText

// said is what a text says, as its digits stand there.
type said struct {
	kind    uint8
	neg     bool
	digits  []byte // what each is worth
	behind  int    // how many of them stand behind the point
	exp     int    // behind e or p, from -beyond to beyond
	payload uint64
}

func (s said) number() api.Number {
	n := api.Number{Kind: s.kind, Neg: s.neg, Payload: s.payload}
	switch s.kind {
	case api.NumDec:
		n.Dec = s.decimal()
	case api.NumHex:
		n.Hex = s.dyadic()
	}
	return n
}

// decimal takes the exponent in at the end, as dec.Make refuses those that are clipped here; it has no other error of so few digits.
func (s said) decimal() api.Dec {
	digits := make([]byte, len(s.digits))
	for i, d := range s.digits {
		digits[i] = '0' + d
	}
	d, _ := dec.Make(s.neg, string(digits), 0)
	if d.Digits != "" {
		d.Exp = clipped(d.Exp + s.exp - s.behind)
	}
	return d
}

// dyadic takes the exponent in at the end, as exact.Make refuses those that are clipped here; it has no other error of so few sixteens.
func (s said) dyadic() api.Dyadic {
	d, _ := exact.Make(s.neg, wholeNumber(s.digits), 0)
	if len(d.Mant.Limbs) > 0 {
		d.Exp = clipped(d.Exp + s.exp - 4*s.behind)
	}
	return d
}

// wholeNumber is that of sixteens, the highest first.
func wholeNumber(sixteens []byte) api.Nat {
	sixteens = bytes.TrimLeft(sixteens, "\x00") // a whole number's last limb is not 0
	limbs := make([]uint32, (len(sixteens)+7)/8)
	for i, d := range sixteens {
		place := len(sixteens) - 1 - i
		limbs[place/8] |= uint32(d) << (place % 8 * 4)
	}
	return api.Nat{Limbs: limbs}
}

func clipped(exp int) int { return max(-api.MaxExp, min(exp, api.MaxExp)) }

// upTo is the whole number of digits in tens, but no more than most.
func upTo(most uint64, digits []byte) uint64 {
	n := uint64(0)
	for _, d := range digits {
		n = min(n*10+uint64(d), most)
	}
	return n
}
