package read

import (
	"math"

	"numeral/api"
	"numeral/dec"
	"numeral/forms"
	"numeral/quick"
	"numeral/round"
	"numeral/wide"
)

// way is one of the ways from a number to its float. It is asked about forms, numbers and modes that may be alone.
type way interface {
	// sure is whether this way surely tells to which float the number is read by Even, its flags aside.
	sure(f api.Form, n api.Number) bool
	// read is the float to which the number is read by the mode, and its flags; false, if this way does not surely tell both.
	read(f api.Form, n api.Number, mode uint8) (bits uint64, flags uint8, ok bool)
}

// ways are asked one after the other; from 1 on they have the numbers that Way tells.
func ways() []way {
	return []way{quickly{}, widely{}, wholly{}, inSixteens{}, byName{}}
}

// quickly is by one product or quotient of native floats.
type quickly struct{}

func (quickly) sure(f api.Form, n api.Number) bool {
	_, ok := native(f, n)
	return ok
}

// read tells by Even alone what is not exact, as one rounding of Go's does. What is quick is nought or a normal float: nothing overflows, nothing is tiny.
func (quickly) read(f api.Form, n api.Number, mode uint8) (uint64, uint8, bool) {
	x, ok := native(f, n)
	if !ok {
		return 0, 0, false
	}
	bits := math.Float64bits(x)
	if f == forms.Single() {
		bits = uint64(math.Float32bits(float32(x)))
	}
	if isWorth(n.Dec, math.Abs(x)) {
		return bits, 0, true
	}
	return bits, api.FlagInexact, mode == api.Even
}

// native is a quick decimal's float, one of Single by its worth; false of all other numbers, and of all forms but Go's own.
func native(f api.Form, n api.Number) (float64, bool) {
	if n.Kind != api.NumDec {
		return 0, false
	}
	switch f {
	case forms.Double():
		return quick.Double(n.Dec)
	case forms.Single():
		x, ok := quick.Single(n.Dec)
		return float64(x), ok
	}
	return 0, false
}

// mostTens is the greatest power of ten that a float64 is worth: the fives in the next one have more bits than it has.
const mostTens = 22

// isWorth tells whether a quick decimal, without its sign, is worth just x, to which it comes. Its number and the power of ten are float64s' worths, so that one rounding tells whether x is their product, or the number x times the power.
func isWorth(d api.Dec, x float64) bool {
	if d.Exp > mostTens {
		return false
	}
	number, _ := quick.Double(api.Dec{Digits: d.Digits})
	power, _ := quick.Double(api.Dec{Digits: "1", Exp: max(d.Exp, -d.Exp)})
	if d.Exp < 0 {
		return math.FMA(x, power, -number) == 0
	}
	return math.FMA(number, power, -x) == 0
}

// widely is by two ends in 128 bits, between which the decimal lies.
type widely struct{}

func (widely) sure(f api.Form, n api.Number) bool {
	if n.Kind != api.NumDec {
		return false
	}
	_, ok, _ := wide.Bits(f, n.Dec)
	return ok
}

// read goes by the floats about the decimal. Where they are one, that is its worth; where they are two, it is neither of them. Nothing overflows or is tiny between two normal ones; elsewhere the flags are not to be told so.
func (widely) read(f api.Form, n api.Number, mode uint8) (uint64, uint8, bool) {
	if n.Kind != api.NumDec {
		return 0, 0, false
	}
	low, high, ok, _ := wide.Between(f, n.Dec)
	if !ok || low == high {
		return low, 0, ok
	}
	if !isNormal(f, low) || !isNormal(f, high) {
		return 0, 0, false
	}
	bits := low
	switch mode {
	case api.Up:
		bits = high
	case api.Zero:
		bits = min(low, high) // both have one sign
	case api.Even:
		bits, ok, _ = wide.Bits(f, n.Dec)
	case api.Away:
		ok = false // what Even tells is another float, if the decimal is just the middle
	}
	return bits, api.FlagInexact, ok
}

func isNormal(f api.Form, bits uint64) bool {
	kind, _ := forms.Class(f, bits) // of a float of the form no error comes
	return kind == api.ClassNormal
}

// wholly is by whole numbers, where nothing is lost but by the one rounding.
type wholly struct{}

func (wholly) sure(_ api.Form, n api.Number) bool { return n.Kind == api.NumDec }

// read makes a fraction of the digits alone, as with the power of ten it might be too long.
func (w wholly) read(f api.Form, n api.Number, mode uint8) (uint64, uint8, bool) {
	if !w.sure(f, n) {
		return 0, 0, false
	}
	r, e := dec.Ratio(api.Dec{Neg: n.Neg, Digits: n.Dec.Digits})
	if e != api.OK {
		return 0, 0, false
	}
	bits, flags, e := round.Scaled(f, r, n.Dec.Exp, n.Neg, mode)
	return bits, flags, e == api.OK
}

// inSixteens is for what was told in sixteens: it is a dyadic as it stands.
type inSixteens struct{}

func (inSixteens) sure(_ api.Form, n api.Number) bool { return n.Kind == api.NumHex }

func (w inSixteens) read(f api.Form, n api.Number, mode uint8) (uint64, uint8, bool) {
	if !w.sure(f, n) {
		return 0, 0, false
	}
	bits, flags, e := round.Dyadic(f, n.Hex, n.Neg, mode)
	return bits, flags, e == api.OK
}

// byName is for infinity and no number, which nothing rounds.
type byName struct{}

func (byName) sure(_ api.Form, n api.Number) bool {
	return n.Kind == api.NumInf || n.Kind == api.NumNaN
}

func (byName) read(f api.Form, n api.Number, _ uint8) (uint64, uint8, bool) {
	switch n.Kind {
	case api.NumInf:
		bits, e := forms.Inf(f, n.Neg)
		return bits, 0, e == api.OK
	case api.NumNaN:
		bits, e := forms.NaN(f, n.Neg, n.Payload)
		return bits, 0, e == api.OK
	}
	return 0, 0, false
}
