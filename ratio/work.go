package ratio

import (
	"numeral/api"
	"numeral/nat"
	"numeral/steps"
)

// work does nat's calls one behind another; its error is asked for once, at the end.
type work struct{ steps.Run }

func (w *work) add(x, y api.Nat) api.Nat { return w.Nat(nat.Add(x, y)) }

// sub wants a y that is not the greater one.
func (w *work) sub(x, y api.Nat) api.Nat { return w.Less(nat.Sub(x, y)) }

func (w *work) mul(x, y api.Nat) api.Nat { return w.Nat(nat.Mul(x, y)) }

func (w *work) div(x, y api.Nat) (quotient, rest api.Nat) { return w.Nats(nat.Div(x, y)) }

func (w *work) over(x, y api.Nat) api.Nat {
	quotient, _ := w.div(x, y)
	return quotient
}

func (w *work) gcd(x, y api.Nat) api.Nat { return w.Nat(nat.Gcd(x, y)) }

func (w *work) cmp(x, y api.Nat) int { return w.Int(nat.Cmp(x, y)) }

// fraction is the answer of a work that came out in lowest terms.
func (w *work) fraction(neg bool, num, den api.Nat) (api.Ratio, api.Errno) {
	if w.Err != api.OK {
		return api.Ratio{}, w.Err
	}
	return api.Ratio{Neg: neg && !isNought(num), Num: num, Den: den}, api.OK
}

// both are the fractions that a call is handed; its operation is a method of them.
type both struct{ a, b api.Ratio }

func (p both) check() api.Errno {
	if e := Check(p.a); e != api.OK {
		return e
	}
	return Check(p.b)
}

// checked does the operation, if the fractions may be.
func (p both) checked(operation func() (api.Ratio, api.Errno)) (api.Ratio, api.Errno) {
	if e := p.check(); e != api.OK {
		return api.Ratio{}, e
	}
	return operation()
}
