package ratio

import (
	"slices"

	"numeral/api"
	"numeral/nat"
)

// Cmp is -1, 0 or 1: a below b, the same, above it.
func Cmp(a, b api.Ratio) (int, api.Errno) {
	p := both{a, b}
	if e := p.check(); e != api.OK {
		return 0, e
	}
	if p.same() {
		return 0, api.OK
	}
	if a.Neg != b.Neg {
		return sign(b.Neg), api.OK
	}
	return sign(p.farther() != a.Neg), api.OK
}

func sign(above bool) int {
	if above {
		return 1
	}
	return -1
}

// shape is what is seen of a fraction without a look at its limbs.
type shape struct {
	neg      bool
	num, den int
}

func shapeOf(r api.Ratio) shape {
	return shape{neg: r.Neg, num: len(r.Num.Limbs), den: len(r.Den.Limbs)}
}

// same goes by fields, as a number is just one fraction.
func (p both) same() bool {
	return shapeOf(p.a) == shapeOf(p.b) &&
		slices.Equal(p.a.Num.Limbs, p.b.Num.Limbs) &&
		slices.Equal(p.a.Den.Limbs, p.b.Den.Limbs)
}

// farther is whether a is farther from nought than b.
func (p both) farther() bool {
	var w work
	left := w.mul(p.a.Num, p.b.Den)
	right := w.mul(p.b.Num, p.a.Den)
	if w.Err == api.OK {
		return w.cmp(left, right) > 0
	}
	return fartherWide(p.a, p.b)
}

// fartherWide is for products that are too long for whole numbers.
func fartherWide(a, b api.Ratio) bool {
	var w work
	left, right := w.wideProduct(a.Num, b.Den), w.wideProduct(b.Num, a.Den)
	for place := len(left) - 1; place >= 0; place-- {
		if n := w.cmp(left[place], right[place]); n != 0 {
			return n > 0
		}
	}
	return false
}

// A number is cut into so many pieces that the product of two of them is at most half as long as a number may be: a few of those can be added up.
const (
	pieces    = 4
	pieceBits = api.MaxLimbs / pieces * 32
)

// wide is a number of up to twice the limbs that a whole number may have, in pieces of pieceBits bits each, the lowest first.
type wide [2 * pieces]api.Nat

// wideProduct goes by columns, as it is done on paper.
func (w *work) wideProduct(x, y api.Nat) wide {
	var xs, ys [pieces]api.Nat
	for i := range pieces {
		xs[i], x = w.cutPiece(x)
		ys[i], y = w.cutPiece(y)
	}
	var product wide
	var column api.Nat
	for place := range product {
		for i := max(0, place-pieces+1); i <= min(place, pieces-1); i++ {
			column = w.add(column, w.mul(xs[i], ys[place-i]))
		}
		product[place], column = w.cutPiece(column)
	}
	return product
}

// cutPiece is the lowest piece of x, and what stands above it.
func (w *work) cutPiece(x api.Nat) (piece, above api.Nat) {
	above = w.Nat(nat.Down(x, pieceBits))
	return w.sub(x, w.Nat(nat.Up(above, pieceBits))), above
}
