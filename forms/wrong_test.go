package forms

import (
	"math"
	"testing"

	"numeral/api"
)

// bitCalls is the calls that take bits; each tells whether all its answers but the error are zero.
func bitCalls() map[string]func(f api.Form, bits uint64) (bool, api.Errno) {
	return map[string]func(f api.Form, bits uint64) (bool, api.Errno){
		"Fits": func(f api.Form, bits uint64) (bool, api.Errno) { return true, Fits(f, bits) },
		"Split": func(f api.Form, bits uint64) (bool, api.Errno) {
			p, e := Split(f, bits)
			return p == api.Parts{}, e
		},
		"Class": func(f api.Form, bits uint64) (bool, api.Errno) {
			c, e := Class(f, bits)
			return c == 0, e
		},
		"Payload": func(f api.Form, bits uint64) (bool, api.Errno) {
			payload, quiet, e := Payload(f, bits)
			return payload == 0 && !quiet, e
		},
	}
}

// A form that may not be comes ahead of bits that no form has, and of the payload of a number.
func TestP31toP35WrongFormsAheadOfBits(t *testing.T) {
	for name, do := range bitCalls() {
		for _, f := range wrongForms() {
			for _, bits := range []uint64{0, 1, 0x7c00, 0x7e03, 1 << 16, 1 << 63, math.MaxUint64} {
				if zero, e := do(f, bits); !zero || e != api.ErrForm {
					t.Errorf("%s(%v, %#x): all zero: %v, error %d", name, f, bits, zero, int(e))
				}
			}
		}
	}
}

// Bits that are too many come ahead of the payload of a number, whatever their lower ones are.
func TestP31toP35BitsThatAreTooMany(t *testing.T) {
	for name, do := range bitCalls() {
		for _, f := range allForms() {
			first, some := beyond(f)
			if !some {
				continue
			}
			for _, low := range edges(f) {
				for _, bits := range []uint64{first | low, 1<<63 | low} {
					if zero, e := do(f, bits); !zero || e != api.ErrBits {
						t.Errorf("%s(%v, %#x): all zero: %v, error %d", name, f, bits, zero, int(e))
					}
				}
			}
		}
	}
}

// A form that may not be comes ahead of fields and payloads that no form has.
func TestP31toP35WrongFormsAheadOfFields(t *testing.T) {
	for _, f := range wrongForms() {
		for _, p := range []api.Parts{{}, {Neg: true, Exp: 1, Frac: 1}, {Exp: -1}, {Exp: math.MaxInt}, {Exp: math.MinInt}, {Frac: math.MaxUint64}} {
			if bits, e := Join(f, p); bits != 0 || e != api.ErrForm {
				t.Errorf("Join(%v, %v) = %#x, error %d", f, p, bits, int(e))
			}
		}
		for _, neg := range []bool{false, true} {
			for _, payload := range []uint64{0, 1, 1 << 51, math.MaxUint64} {
				if bits, e := NaN(f, neg, payload); bits != 0 || e != api.ErrForm {
					t.Errorf("NaN(%v, %v, %d) = %#x, error %d", f, neg, payload, bits, int(e))
				}
			}
			for _, c := range knownCalls() {
				if bits, e := c.do(f, neg); bits != 0 || e != api.ErrForm {
					t.Errorf("%s(%v, %v) = %#x, error %d", c.name, f, neg, bits, int(e))
				}
			}
		}
		if least, greatest, e := Range(f); least != 0 || greatest != 0 || e != api.ErrForm {
			t.Errorf("Range(%v) = %d, %d, error %d", f, least, greatest, int(e))
		}
	}
}
