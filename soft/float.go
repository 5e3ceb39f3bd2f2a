package soft

import (
	"numeral/api"
	"numeral/exact"
	"numeral/forms"
)

// float is what a float is, be it none, infinite, nought or number. The operations answer what comes out exactly, which no form need have; it is rounded at the end, once. Their further operands are of any kind but none.
type float interface {
	// plus is the sum; the mode tells the sign of a nought to which noughts of both signs, or numbers, add up.
	plus(b float, mode uint8) float
	times(b float) float
	over(b float) float
	root() float
	// whole is the whole number to which it rounds by the mode.
	whole(mode uint8) float
	// rounded is the float of a form, and all flags.
	rounded(f api.Form, mode uint8) (uint64, uint8, api.Errno)
	negative() bool
}

// floatsOf is what bits that the form has are.
func floatsOf(f api.Form, operands ...uint64) []float {
	x := make([]float, len(operands))
	for i, bits := range operands {
		x[i] = floatOf(f, bits)
	}
	return x
}

func floatOf(f api.Form, bits uint64) float {
	// The form has these bits: no error comes here.
	class, _ := forms.Class(f, bits)
	fields, _ := forms.Split(f, bits)
	switch class {
	case api.ClassNaN:
		return noneOf(f, bits)
	case api.ClassInf:
		return infinite{neg: fields.Neg}
	case api.ClassZero:
		return nought{neg: fields.Neg}
	}
	worth, _ := exact.Value(f, bits)
	return number{worth: worth}
}

// noneOf is what is no number: if it is not quiet, this is told.
func noneOf(f api.Form, bits uint64) none {
	if _, quiet, _ := forms.Payload(f, bits); quiet {
		return none{}
	}
	return invalid()
}

// noNumber tells whether one of the operands is no number, and is then what all that are none tell together.
func noNumber(x []float) (all none, is bool) {
	for _, operand := range x {
		switch n := operand.(type) {
		case none:
			all.flags |= n.flags
			is = true
		}
	}
	return all, is
}

// otherSign is whether just one of two floats has a minus.
func otherSign(a, b float) bool { return a.negative() != b.negative() }
