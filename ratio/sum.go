package ratio

import (
	"numeral/api"
	"numeral/nat"
)

// Add is the sum.
func Add(a, b api.Ratio) (api.Ratio, api.Errno) {
	p := both{a, b}
	return p.checked(p.sum)
}

// Sub is a less b.
func Sub(a, b api.Ratio) (api.Ratio, api.Errno) {
	p := both{a, b}
	return p.checked(p.difference)
}

// difference may turn the sign of a nought: in a sum nothing hangs on that.
func (p both) difference() (api.Ratio, api.Errno) {
	p.b.Neg = !p.b.Neg
	return p.sum()
}

func (p both) sum() (api.Ratio, api.Errno) {
	var w work
	if p.a.Neg == p.b.Neg {
		return w.together(p)
	}
	return w.apart(p)
}

// together adds fractions of one sign. No step is greater than the sum's Num or Den: so ErrMany comes just if it is theirs.
func (w *work) together(p both) (api.Ratio, api.Errno) {
	s := w.split(p)
	num := w.add(s.partA, s.partB)
	if s.broken {
		num = w.add(num, nat.Of(1))
	}
	num = w.add(num, w.mul(w.add(s.wholeA, s.wholeB), s.den))
	return w.fraction(p.a.Neg, num, s.den)
}

// apart takes the fraction that is nearer to nought from the other one, without their signs. Where the parts come out below nought, one of the whole is broken up for them: no step is greater than the answer's Num or Den here, too.
func (w *work) apart(p both) (api.Ratio, api.Errno) {
	s := w.split(p)
	neg := p.a.Neg
	if s.below(w) {
		neg = p.b.Neg
		s.wholeA, s.wholeB = s.wholeB, s.wholeA
		s.partA, s.partB = s.partB, s.partA
	}
	whole := w.sub(s.wholeA, s.wholeB)
	if w.cmp(s.partA, s.partB) < 0 {
		whole = w.sub(whole, nat.Of(1))
		s.partA = w.add(w.sub(s.den, s.partB), s.partA)
		s.partB = api.Nat{}
	}
	num := w.add(w.mul(whole, s.den), w.sub(s.partA, s.partB))
	return w.fraction(neg, num, s.den)
}

// split are two fractions without their signs, each its whole and a part over den: a is wholeA and partA over den. The parts are rounded down; broken tells whether both lost something, which is just 1 together if the fractions are added, and the same in both if one is taken from the other.
type split struct {
	wholeA, wholeB api.Nat
	partA, partB   api.Nat
	den            api.Nat
	broken         bool
}

// split finds the Den of the sum, or of the difference, first: in lowest terms it may be shorter by far than the product of both. What is worked out behind it is less than it.
func (w *work) split(p both) split {
	wholeA, restA := w.div(p.a.Num, p.a.Den)
	wholeB, restB := w.div(p.b.Num, p.b.Den)
	common := w.gcd(p.a.Den, p.b.Den)
	timesA, timesB := w.over(p.b.Den, common), w.over(p.a.Den, common)
	// Over the least common multiple the parts are restA timesA and restB timesB: what their sum has in common with it divides common.
	_, left := w.mulOver(restA, timesA, common)
	_, right := w.mulOver(restB, timesB, common)
	if p.a.Neg == p.b.Neg {
		right = w.sub(common, right)
	}
	lost := w.gcd(w.distance(left, right), common)
	den := w.mul(timesB, w.over(p.b.Den, lost))
	partA, brokenA := w.mulOver(restA, timesA, lost)
	partB, _ := w.mulOver(restB, timesB, lost)
	return split{wholeA, wholeB, partA, partB, den, !isNought(brokenA)}
}

// mulOver is x times y over z, rounded down, and what is left, without a product that is longer than the answer or than y times z.
func (w *work) mulOver(x, y, z api.Nat) (quotient, rest api.Nat) {
	high, low := w.div(x, z)
	quotient, rest = w.div(w.mul(low, y), z)
	return w.add(w.mul(high, y), quotient), rest
}

func (w *work) distance(x, y api.Nat) api.Nat {
	if w.cmp(x, y) < 0 {
		x, y = y, x
	}
	return w.sub(x, y)
}

// below is whether the first fraction is nearer to nought than the second one.
func (s split) below(w *work) bool {
	if n := w.cmp(s.wholeA, s.wholeB); n != 0 {
		return n < 0
	}
	return w.cmp(s.partA, s.partB) < 0
}
