package near

import (
	"numeral/api"
	"numeral/exact"
	"numeral/forms"
	"numeral/round"
	"numeral/steps"
)

// Reach is the numbers that round to a finite float without an overflow: all from low to high, these two where lowIn and highIn say so.
func Reach(f api.Form, bits uint64, mode uint8) (low, high api.Ratio, lowIn, highIn bool, e api.Errno) {
	if e := check(f, bits); e != api.OK {
		return api.Ratio{}, api.Ratio{}, false, false, e
	}
	// A mode that may be has a name.
	if _, e := round.Name(mode); e != api.OK {
		return api.Ratio{}, api.Ratio{}, false, false, e
	}
	w := rounding{form: f, bits: bits, mode: mode}
	first, last := w.ends()
	low, high = w.Ratio(exact.Ratio(first)), w.Ratio(exact.Ratio(last))
	lowIn, highIn = w.has(first), w.has(last)
	if w.Err != api.OK {
		return api.Ratio{}, api.Ratio{}, false, false, w.Err
	}
	return low, high, lowIn, highIn, api.OK
}

// rounding is what numbers are held against: do they round to this float, by this mode?
type rounding struct {
	form api.Form
	bits uint64
	mode uint8
	steps.Run
}

// ends is where the numbers that round to the float begin and end. A nought has the numbers of its own side alone.
func (w *rounding) ends() (low, high api.Dyadic) {
	here := w.Dyadic(exact.Value(w.form, w.bits))
	low, high = here, here
	if w.bits != 0 {
		low = w.border(w.worth(Down(w.form, w.bits)), here)
	}
	if w.bits != signBit(w.form) {
		high = w.border(here, w.worth(Up(w.form, w.bits)))
	}
	return low, high
}

// worth is what a neighbour of a finite float is worth; infinity as the next one beyond the greatest float, as if exponents had no upper end.
func (w *rounding) worth(bits uint64, e api.Errno) api.Dyadic {
	w.Keep(e)
	class, e := forms.Class(w.form, bits)
	w.Keep(e)
	if class != api.ClassInf {
		return w.Dyadic(exact.Value(w.form, bits))
	}
	_, greatest, e := forms.Range(w.form)
	w.Keep(e)
	return w.Dyadic(exact.Make(bits >= signBit(w.form), one(), greatest+1))
}

// border is where, of two neighbours, the numbers that round to the lower one end and those that round to the upper one begin.
func (w *rounding) border(lower, upper api.Dyadic) api.Dyadic {
	switch w.mode {
	case api.Even, api.Away:
		return middle(&w.Run, lower, upper)
	case api.Down:
		return upper
	case api.Up:
		return lower
	}
	// Toward nought: downward above it, upward below it.
	if lower.Neg {
		return lower
	}
	return upper
}

// has tells whether a number rounds to the float.
func (w *rounding) has(d api.Dyadic) bool {
	neg := w.bits >= signBit(w.form)
	bits, flags, e := round.Dyadic(w.form, d, neg, w.mode)
	w.Keep(e)
	return bits == w.bits && flags&api.FlagOverflow == 0
}
