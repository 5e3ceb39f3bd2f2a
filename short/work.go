package short

import (
	"numeral/api"
	"numeral/dec"
	"numeral/steps"
)

// work is operations on decimals, one behind another, whose first error is kept.
type work struct{ steps.Run }

// parts is a fraction whose numbers are decimals.
type parts struct{ num, den api.Dec }

func (w *work) parts(r api.Ratio) parts {
	unit := api.Nat{Limbs: []uint32{1}}
	num := w.decimal(api.Ratio{Neg: r.Neg, Num: r.Num, Den: unit})
	return parts{num, w.decimal(api.Ratio{Num: r.Den, Den: unit})}
}

// decimal is for fractions that are known to be worth one.
func (w *work) decimal(r api.Ratio) api.Dec {
	d, _, e := dec.Of(r)
	w.Keep(e)
	return d
}

func (w *work) sum(a, b api.Dec) api.Dec { return w.Dec(dec.Add(a, b)) }

func (w *work) less(a, b api.Dec) api.Dec {
	b.Neg = !b.Neg
	return w.sum(a, b)
}

func (w *work) product(factors ...api.Dec) api.Dec {
	all := one()
	for _, d := range factors {
		all = w.Dec(dec.Mul(all, d))
	}
	return all
}

func (w *work) shifted(d api.Dec, n int) api.Dec { return w.Dec(dec.Shift(d, n)) }

func (w *work) order(a, b api.Dec) int { return w.Int(dec.Cmp(a, b)) }

func one() api.Dec { return api.Dec{Digits: "1"} }

func isNought(d api.Dec) bool { return len(d.Digits) == 0 }
