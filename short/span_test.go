package short

import (
	"math/big"
	"testing"

	"numeral/api"
)

// span is an interval: all numbers from low to high, low itself just if lowIn, high itself just if highIn.
type span struct {
	low, high     *big.Rat
	lowIn, highIn bool
}

func (s span) has(x *big.Rat) bool {
	below, above := s.low.Cmp(x), x.Cmp(s.high)
	return (below < 0 || below == 0 && s.lowIn) && (above < 0 || above == 0 && s.highIn)
}

// mirror is all its numbers with their signs turned.
func (s span) mirror() span { return span{turnedRat(s.high), turnedRat(s.low), s.highIn, s.lowIn} }

func (s span) String() string {
	text := "from " + showRat(s.low) + " to " + showRat(s.high)
	if !s.lowIn {
		text += ", the low one out"
	}
	if !s.highIn {
		text += ", the high one out"
	}
	return text
}

// reachOf is the numbers that round to a finite float that is no nought, by the document's first page.
func reachOf(f api.Form, float uint64, mode uint8) span {
	if float >= minus(f) {
		return reachOf(f, float-minus(f), mirrored[mode]).mirror()
	}
	lower, here, upper := worthOf(f, float-1), worthOf(f, float), worthOf(f, float+1)
	even := float%2 == 0
	switch mode {
	case api.Even:
		return span{halfway(lower, here), halfway(here, upper), even, even}
	case api.Away:
		return span{halfway(lower, here), halfway(here, upper), true, false}
	case api.Up:
		return span{lower, here, false, true}
	}
	return span{here, upper, true, false}
}

// best is the best decimal in the interval for a number in it, as the chapter words it: all decimals of so many digits that lie in the interval and not far from the number are held against each other.
func (s span) best(t *testing.T, at *big.Rat) (api.Dec, bool) {
	t.Helper()
	switch {
	case s.has(new(big.Rat)):
		return api.Dec{}, true
	case s.low.Cmp(s.high) == 0:
		return decimalOf(at)
	case at.Sign() < 0:
		d, ok := s.mirror().best(t, turnedRat(at))
		d.Neg = ok
		return d, ok
	}
	for n := 1; n < 6000; n++ {
		var found api.Dec
		for _, d := range s.all(n, at) {
			if found.Digits == "" || better(d, found, at) {
				found = d
			}
		}
		if found.Digits != "" {
			return found, true
		}
	}
	t.Fatalf("%v: no decimal for %s", s, showRat(at))
	return api.Dec{}, false
}

// all is the decimals of just so many digits that lie in an interval above nought, about a number in it: those whose first digits stand at its own power of ten, or at one of those beside it.
func (s span) all(n int, at *big.Rat) []api.Dec {
	var all []api.Dec
	first, beyond := power10(n-1), power10(n)
	top := magnitude(at)
	for exp := top - n - 2; exp <= top-n+4; exp++ {
		m := new(big.Int).Sub(floor(s.low, exp), big.NewInt(1))
		if m.Cmp(first) < 0 {
			m.Set(first)
		}
		last := floor(s.high, exp)
		for ; m.Cmp(beyond) < 0 && m.Cmp(last) <= 0; m.Add(m, big.NewInt(1)) {
			d := api.Dec{Digits: m.String(), Exp: exp}
			if d.Digits[n-1] != '0' && s.has(ratOf(d)) {
				all = append(all, d)
			}
		}
	}
	return all
}

// magnitude is a power of ten that is not far from that of the first digit.
func magnitude(x *big.Rat) int {
	return (x.Num().BitLen() - x.Denom().BitLen()) * 30103 / 100000
}

// floor is how many times 10 to the power of exp goes into a number that is not below nought.
func floor(x *big.Rat, exp int) *big.Int {
	y := times(x, tenTo(-exp))
	return new(big.Int).Div(y.Num(), y.Denom())
}

// better is whether the first of two decimals of as many digits, above nought, is to be taken.
func better(a, b api.Dec, at *big.Rat) bool {
	x, y := ratOf(a), ratOf(b)
	farA, farB := less(x, at), less(y, at)
	if order := farA.Abs(farA).Cmp(farB.Abs(farB)); order != 0 {
		return order < 0
	}
	oddA, oddB := a.Digits[len(a.Digits)-1]%2, b.Digits[len(b.Digits)-1]%2
	if oddA != oddB {
		return oddA == 0
	}
	return x.Cmp(y) < 0
}

// bestOf is the best decimal of a finite float that is no nought.
func bestOf(t *testing.T, f api.Form, float uint64, mode uint8) api.Dec {
	t.Helper()
	d, _ := reachOf(f, float, mode).best(t, worthOf(f, float))
	return d
}

// told is what Within answers.
type told struct {
	d  api.Dec
	is bool
	e  api.Errno
}

func within(s span, at *big.Rat) told {
	d, is, e := Within(fraction(s.low), fraction(s.high), s.lowIn, s.highIn, fraction(at))
	return told{d, is, e}
}

// withinIs wants this answer of Within.
func withinIs(t *testing.T, s span, at *big.Rat, want told) {
	t.Helper()
	if got := within(s, at); got != want {
		t.Errorf("%v, for %s: %s, %v, error %d; want %s, %v, error %d", s, showRat(at), show(got.d), got.is, int(got.e), show(want.d), want.is, int(want.e))
	}
}

// withinHolds wants what the chapter's words owe; it answers that.
func withinHolds(t *testing.T, s span, at *big.Rat) told {
	t.Helper()
	want := told{e: api.ErrArg}
	if s.has(at) {
		want.d, want.is = s.best(t, at)
		want.e = api.OK
	}
	withinIs(t, s, at, want)
	return want
}

// flags are an interval with each end in and out.
func (s span) flags() []span {
	var all []span
	for n := range 4 {
		all = append(all, span{s.low, s.high, n&1 == 1, n&2 == 2})
	}
	return all
}
