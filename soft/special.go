package soft

import (
	"numeral/api"
	"numeral/forms"
)

// Each kind has the flags that were told of it ahead of its rounding.
type (
	// none is no number, whatever is done with it.
	none struct{ flags uint8 }

	infinite struct {
		neg   bool
		flags uint8
	}

	nought struct {
		neg   bool
		flags uint8
	}
)

// invalid is what an operation answers that has no answer.
func invalid() none { return none{flags: api.FlagInvalid} }

func (n none) plus(float, uint8) float { return n }

func (n none) times(float) float { return n }

func (n none) over(float) float { return n }

func (n none) root() float { return n }

func (n none) whole(uint8) float { return n }

func (n none) rounded(f api.Form, _ uint8) (uint64, uint8, api.Errno) {
	bits, e := forms.NaN(f, false, 0)
	return bits, n.flags, e
}

func (n none) negative() bool { return false }

func (a infinite) plus(b float, _ uint8) float {
	switch b := b.(type) {
	case infinite:
		if a.neg != b.neg {
			return invalid()
		}
	}
	return a
}

func (a infinite) times(b float) float {
	switch b.(type) {
	case nought:
		return invalid()
	}
	return infinite{neg: otherSign(a, b)}
}

func (a infinite) over(b float) float {
	switch b.(type) {
	case infinite:
		return invalid()
	}
	return infinite{neg: otherSign(a, b)}
}

func (a infinite) root() float {
	if a.neg {
		return invalid()
	}
	return a
}

func (a infinite) whole(uint8) float { return a }

func (a infinite) rounded(f api.Form, _ uint8) (uint64, uint8, api.Errno) {
	bits, e := forms.Inf(f, a.neg)
	return bits, a.flags, e
}

func (a infinite) negative() bool { return a.neg }

func (a nought) plus(b float, mode uint8) float {
	switch b := b.(type) {
	case nought:
		if a.neg != b.neg {
			return cancelled(mode)
		}
	}
	return b
}

// cancelled is the nought that is left where a sum has no sign of its own.
func cancelled(mode uint8) float { return nought{neg: mode == api.Down} }

func (a nought) times(b float) float {
	switch b.(type) {
	case infinite:
		return invalid()
	}
	return nought{neg: otherSign(a, b)}
}

func (a nought) over(b float) float {
	switch b.(type) {
	case nought:
		return invalid()
	}
	return nought{neg: otherSign(a, b)}
}

func (a nought) root() float { return a }

func (a nought) whole(uint8) float { return a }

func (a nought) rounded(f api.Form, _ uint8) (uint64, uint8, api.Errno) {
	bits, e := forms.Nought(f, a.neg)
	return bits, a.flags, e
}

func (a nought) negative() bool { return a.neg }
