package lex

import (
	"strconv"

	"numeral/api"
)

// refusal is the error of a text that says no number: its fault, with a text that people can read.
type refusal struct{ fault *api.Fault }

func refused(f api.Fault) error { return &refusal{fault: &f} }

// Error is a text.
func (r *refusal) Error() string {
	return "numeral: " + why(r.fault.Code) + ", at byte " + strconv.Itoa(r.fault.At)
}

// Unwrap is the fault.
func (r *refusal) Unwrap() error { return r.fault }

func why(code api.Errno) string {
	switch code {
	case api.ErrText:
		return "a text of more than " + strconv.Itoa(api.MaxText) + " bytes"
	case api.ErrNumber:
		return "no number begins"
	case api.ErrDigits:
		return "a digit must stand there and does not"
	case api.ErrUnder:
		return "an underscore that is not between two digits"
	case api.ErrPayload:
		return "a payload of 2^51 or more"
	case api.ErrUTF:
		return "bytes that are no UTF-8"
	}
	return "the number does not go on so"
}
