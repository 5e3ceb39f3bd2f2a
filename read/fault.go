package read

import "numeral/api"

// refusal is the error of a text that is not read: its fault, with a text that people can read.
type refusal struct {
	fault *api.Fault
	why   string
}

// refused is of what lies in no place of the text.
func refused(code api.Errno) error {
	return &refusal{fault: &api.Fault{Code: code}, why: "numeral: " + why(code)}
}

// Error is a text.
func (r *refusal) Error() string { return r.why }

// Unwrap is the fault.
func (r *refusal) Unwrap() error { return r.fault }

func why(code api.Errno) string {
	switch code {
	case api.ErrForm:
		return "a form that may not be"
	case api.ErrMode:
		return "no mode to round by"
	}
	return "a payload that the form has no room for"
}
