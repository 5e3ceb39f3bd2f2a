package digits

import (
	"strconv"
	"strings"

	"numeral/api"
	"numeral/nat"
	"numeral/steps"
)

// mostShort is so many that every whole number of so many digits fits 64 bits.
const mostShort = 19

// decimal is what a float is worth without its sign: digits, perhaps with noughts at their ends, times 10 to the power of exp. As two is ten over five, a power of two below the line is one of five above it and one of ten below.
func decimal(d api.Dyadic) (digits string, exp int, e api.Errno) {
	var w steps.Run
	fives := w.Nat(nat.Pow(5, max(-d.Exp, 0)))
	n := w.Nat(nat.Mul(w.Nat(nat.Up(d.Mant, max(d.Exp, 0))), fives))
	digits, e = tens(n)
	w.Keep(e)
	return digits, min(d.Exp, 0), w.Err
}

// tens is the digits of a whole number, perhaps with noughts ahead: those of its upper half and those of its lower half, each told likewise, as long as it is long.
func tens(n api.Nat) (string, api.Errno) {
	var w steps.Run
	var text strings.Builder
	var tell func(n api.Nat, size int)
	tell = func(n api.Nat, size int) {
		if size <= mostShort {
			text.WriteString(short(n, size))
			return
		}
		lower := size / 2
		upperHalf, lowerHalf := w.Nats(nat.Div(n, w.Nat(nat.Pow(10, lower))))
		tell(upperHalf, size-lower)
		tell(lowerHalf, lower)
	}
	// Each digit is worth more than three bits: so these are never too few.
	tell(n, w.Int(nat.Bits(n))/3+1)
	return text.String(), w.Err
}

// short is a whole number that fits 64 bits, in so many digits, noughts ahead.
func short(n api.Nat, size int) string {
	word, _ := nat.Low(n)
	digits := strconv.FormatUint(word, 10)
	return strings.Repeat("0", size-len(digits)) + digits
}
