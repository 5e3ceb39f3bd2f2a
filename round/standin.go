package round

import (
	"numeral/api"
	"numeral/exact"
	"numeral/nat"
	"numeral/steps"
)

const (
	// reach is far beyond the exponents of all floats of all forms, on both sides of nought.
	reach = 1 << 12
	// enough is a count of bits that no rounding to a float asks for: a fraction of 52 bits, one ahead of it, one behind it that counts the half, and one for all that follows.
	enough = 64
)

// work does nat's calls one behind another; its error is asked for once, at the end.
type work struct{ steps.Run }

// standIn is a dyadic that rounds in every form and mode as r times 10 to the power of n does: it has the first bits of that number, and one bit more that is set just if the number goes on behind them. So both are floats' worths, or halves between two, or lie between the same of these.
func standIn(r api.Ratio, n int) (api.Dyadic, api.Errno) {
	if isNought(r.Num) {
		return api.Dyadic{}, api.OK
	}
	var w work
	size := w.sizeOf(r, n)
	if size > reach || size < -reach {
		// Beyond all floats, or nearer to nought than half of each: nothing else of it counts.
		return exact.Make(r.Neg, nat.Of(1), size)
	}
	bits, exp := w.scaled(r, n).firstBits(&w)
	if w.Err != api.OK {
		return api.Dyadic{}, w.Err
	}
	return exact.Make(r.Neg, bits, exp)
}

// sizeOf is about the exponent of two of the first bit of r times 10 to the power of n: it is off by a few at most, or, far beyond reach, on the right side of nought.
func (w *work) sizeOf(r api.Ratio, n int) int {
	const (
		far   = 1 << 20 // no fraction brings such a power of ten back into reach
		ten   = 3321928 // a power of ten counts so many millionths of a power of two
		whole = 1000000
	)
	n = min(max(n, -far), far)
	return w.Int(nat.Bits(r.Num)) - w.Int(nat.Bits(r.Den)) + n*ten/whole
}

// quotient is a number without its sign: num times up, over den times down, times 2 to the power of exp.
type quotient struct {
	num, up, den, down api.Nat
	exp                int
}

// scaled is r times 10 to the power of n, which must be within reach: a power of five and one of two. The power of five is not multiplied into r's numbers, as these may be too long for it, but where it is long: then r is far below 1, and its upper number has room for it.
func (w *work) scaled(r api.Ratio, n int) quotient {
	one := nat.Of(1)
	q := quotient{num: r.Num, up: one, den: r.Den, down: one, exp: n}
	power := w.Nat(nat.Pow(5, max(n, -n)))
	switch {
	case n < 0:
		q.down = power
	case n > 2*reach:
		q.num = w.Nat(nat.Mul(r.Num, power))
	default:
		q.up = power
	}
	return q
}

// firstBits is a number that has enough of the first bits of q, and a last bit that is set just if q goes on behind them; exp is the exponent of its last bit.
func (q quotient) firstBits(w *work) (bits api.Nat, exp int) {
	long := w.Int(nat.Bits(q.den))
	lift := max(0, long-w.Int(nat.Bits(q.num)))
	num := w.Nat(nat.Up(q.num, lift))
	// The quotient of two numbers has as many bits as one has more than the other, or one more. Where down is long, so is the quotient by den alone: few bits more are asked for.
	there := w.Int(nat.Bits(num)) + w.Int(nat.Bits(q.up)) - 1 - long
	more := max(0, enough+w.Int(nat.Bits(q.down))-there)
	factor := w.Nat(nat.Up(q.up, more))

	whole, rest := w.Nats(nat.Div(num, q.den))
	part, goesOn := w.share(rest, factor, q.den)
	all := w.Nat(nat.Add(w.Nat(nat.Mul(whole, factor)), part))
	bits, rest = w.Nats(nat.Div(all, q.down))
	bits = w.Nat(nat.Up(bits, 1))
	if goesOn || !isNought(rest) {
		bits = w.Nat(nat.Add(bits, nat.Of(1)))
	}
	return bits, q.exp - lift - more - 1
}

// share is rest times factor over den, rounded down, and whether it goes on behind that; rest must be below den.
func (w *work) share(rest, factor, den api.Nat) (api.Nat, bool) {
	product, e := nat.Mul(rest, factor)
	if e == api.ErrMany {
		return w.shareOfLong(rest, factor, den)
	}
	w.Keep(e)
	part, left := w.Nats(nat.Div(product, den))
	return part, !isNought(left)
}

// shareOfLong is share where the product would be too long: as no factor is longer than a few times reach, den has nearly as many limbs as may be, and against its half the factor is short. The upper halves of rest and den tell the answer but for 1, with den's half rounded up, so that it is never too great; then what is left of the product is held against den.
func (w *work) shareOfLong(rest, factor, den api.Nat) (api.Nat, bool) {
	half := w.Int(nat.Bits(den)) / 2
	restHigh, restLow := w.halves(rest, half)
	denHigh, denLow := w.halves(den, half)
	above := w.Nat(nat.Add(denHigh, nat.Of(1)))
	part, left := w.Nats(nat.Div(w.Nat(nat.Mul(restHigh, factor)), above))

	left = w.Nat(nat.Up(left, half))
	lacking := w.Less(nat.Sub(w.Nat(nat.Up(nat.Of(1), half)), denLow))
	later := w.Nat(nat.Add(w.Nat(nat.Mul(part, lacking)), w.Nat(nat.Mul(restLow, factor))))
	// Held against what lacks to den, as the sum of left and later may be too long. It is not nought, so it is a rest, unless it is den.
	order := w.Int(nat.Cmp(later, w.Less(nat.Sub(den, left))))
	if order >= 0 {
		part = w.Nat(nat.Add(part, nat.Of(1)))
	}
	return part, order != 0
}

// halves are a number's bits from the bit number half on, and those below it.
func (w *work) halves(x api.Nat, half int) (high, low api.Nat) {
	high = w.Nat(nat.Down(x, half))
	return high, w.Less(nat.Sub(x, w.Nat(nat.Up(high, half))))
}
