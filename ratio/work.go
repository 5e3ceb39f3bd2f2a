package ratio

import (
	"numeral/api"
	"numeral/nat"
)

// work does nat's calls one behind another and keeps the first error, so that it is asked for once, at the end. What comes behind an error means nothing.
type work struct{ e api.Errno }

func (w *work) keep(e api.Errno) {
	if w.e == api.OK {
		w.e = e
	}
}

func (w *work) add(x, y api.Nat) api.Nat {
	sum, e := nat.Add(x, y)
	w.keep(e)
	return sum
}

// sub wants a y that is not the greater one.
func (w *work) sub(x, y api.Nat) api.Nat {
	rest, _, e := nat.Sub(x, y)
	w.keep(e)
	return rest
}

func (w *work) mul(x, y api.Nat) api.Nat {
	product, e := nat.Mul(x, y)
	w.keep(e)
	return product
}

func (w *work) div(x, y api.Nat) (quotient, rest api.Nat) {
	quotient, rest, e := nat.Div(x, y)
	w.keep(e)
	return quotient, rest
}

func (w *work) over(x, y api.Nat) api.Nat {
	quotient, _ := w.div(x, y)
	return quotient
}

func (w *work) gcd(x, y api.Nat) api.Nat {
	common, e := nat.Gcd(x, y)
	w.keep(e)
	return common
}

func (w *work) cmp(x, y api.Nat) int {
	n, e := nat.Cmp(x, y)
	w.keep(e)
	return n
}

// fraction is the answer of a work that came out in lowest terms.
func (w *work) fraction(neg bool, num, den api.Nat) (api.Ratio, api.Errno) {
	if w.e != api.OK {
		return api.Ratio{}, w.e
	}
	return api.Ratio{Neg: neg && !isNought(num), Num: num, Den: den}, api.OK
}

// both are the fractions that a call is handed; its operation is a method of them.
type both struct{ a, b api.Ratio }

func (p both) check() api.Errno {
	if e := Check(p.a); e != api.OK {
		return e
	}
	return Check(p.b)
}

// checked does the operation, if the fractions may be.
func (p both) checked(operation func() (api.Ratio, api.Errno)) (api.Ratio, api.Errno) {
	if e := p.check(); e != api.OK {
		return api.Ratio{}, e
	}
	return operation()
}
