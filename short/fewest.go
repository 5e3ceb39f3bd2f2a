package short

import (
	"numeral/api"
	"numeral/dec"
)

// walk goes through the digits of a number above nought, from the first one on. The number is told times a unit, so that each digit is how often that goes into what is left.
type walk struct {
	work
	digits []byte
	exp    int     // the power of ten of the last digit
	left   api.Dec // the number less these digits, times the unit
	step   api.Dec // one more in the last digit, times the unit
}

// beside is one of the two decimals of so many digits that a number lies between: where it lies, and how far away, times the unit.
type beside struct {
	above bool
	far   api.Dec
}

// fewest is the best decimal for a number above nought, which is told times unit; in tells whether a decimal may be taken. No decimal of fewer digits than are tried could: so each one that is tried has as many.
func fewest(at, unit api.Dec, in func(beside) bool) (api.Dec, api.Errno) {
	w := begin(at, unit)
	var found beside
tries:
	for w.Err == api.OK {
		w.next()
		for _, found = range w.nearest() {
			if in(found) {
				break tries
			}
		}
	}
	return w.told(found)
}

// begin stands ahead of the first digit that is not 0.
func begin(at, unit api.Dec) *walk {
	exp := size(at) - size(unit)
	w := &walk{exp: exp, left: at}
	w.step = w.shifted(unit, exp)
	if w.order(w.step, at) <= 0 {
		w.exp++
		w.step = w.shifted(w.step, 1)
	}
	return w
}

// size is how many digits stand ahead of the point; below nought, if it is noughts that stand behind it.
func size(d api.Dec) int { return len(d.Digits) + d.Exp }

// next goes to the next digit.
func (w *walk) next() {
	w.exp--
	w.step = w.shifted(w.step, -1)
	digit := byte('0')
	for digit < '9' && w.order(w.step, w.left) <= 0 {
		w.left = w.less(w.left, w.step)
		digit++
	}
	w.digits = append(w.digits, digit)
}

// nearest is the decimals that the number lies between, the better one ahead.
func (w *walk) nearest() [2]beside {
	lower, upper := beside{false, w.left}, beside{true, w.less(w.step, w.left)}
	order := w.order(lower.far, upper.far)
	if order < 0 || order == 0 && w.staysBelow() {
		return [...]beside{lower, upper}
	}
	return [...]beside{upper, lower}
}

// staysBelow is whether of two decimals that are as near the lower one is taken. Behind a 9 comes a 1, with a nought that counts for nothing: both are odd.
func (w *walk) staysBelow() bool {
	last := w.digits[len(w.digits)-1]
	return last%2 == 0 || last == '9'
}

// told is the decimal that was found.
func (w *walk) told(found beside) (api.Dec, api.Errno) {
	// The lower one of two may have noughts at its end, as long as the upper one is taken.
	d := w.Dec(dec.Make(false, string(w.digits), w.exp))
	if found.above {
		d = w.sum(d, api.Dec{Digits: "1", Exp: w.exp})
	}
	return d, w.Err
}
