package sure

import (
	"math/big"
	"sync"
	"testing"

	"numeral/api"
	"numeral/power"
)

// The chapter's words, worked out anew by whole numbers without end. Numbers of a form are told in halves of its least float: of these all floats, and all ends of reaches, are whole.

// worthOf is a float's worth, without its sign; infinity's as if exponents had no upper end.
func worthOf(f api.Form, float uint64) *big.Int {
	rest := float % minus(f)
	e, n := int(rest>>f.Frac), rest%normal(f)
	if e > 0 {
		n += normal(f)
	}
	x := new(big.Int).SetUint64(n)
	return x.Lsh(x, uint(max(e, 1)))
}

// unit is the exponent of two of half the least float.
func unit(f api.Form) int { return 1 - bias(f) - f.Frac - 1 }

// reachOf are the numbers that round to a float by Even; the ends are in it, if its last bit is 0. The float is not nought.
func reachOf(f api.Form, float uint64) (low, high *big.Int, in bool) {
	float %= minus(f)
	middle := func(a, b uint64) *big.Int {
		sum := new(big.Int).Add(worthOf(f, a), worthOf(f, b))
		return sum.Rsh(sum, 1)
	}
	return middle(float-1, float), middle(float, float+1), float%2 == 0
}

// firstOf is the whole number p with 10^p not above the float, and the float below 10^(p + 1). A half is 5 over 10, so that the digits tell it.
func firstOf(f api.Form, float uint64) int {
	fives := new(big.Int).Exp(big.NewInt(5), big.NewInt(int64(-unit(f))), nil)
	return len(fives.Mul(fives, worthOf(f, float)).String()) - 1 + unit(f)
}

// tenWords is a power of ten: T times 2^x, and whether it is just that.
type tenWords struct {
	t     *big.Int
	x     int
	whole bool
}

// tens keeps the powers of ten that the tests have asked for.
var tens struct {
	sync.Mutex
	of map[int]tenWords
}

// tenWordsOf is T and x of 10^k, by whole numbers; power.Ten and power.Whole must say the same.
func tenWordsOf(t *testing.T, k int) tenWords {
	t.Helper()
	tens.Lock()
	defer tens.Unlock()
	if w, ok := tens.of[k]; ok {
		return w
	}
	w := newTen(k)
	hi, lo, exp, e := power.Ten(k)
	whole, e2 := power.Whole(k)
	both := new(big.Int).SetUint64(hi)
	both.Lsh(both, 64).Or(both, new(big.Int).SetUint64(lo))
	if both.Cmp(w.t) != 0 || exp != w.x || whole != w.whole || e != api.OK || e2 != api.OK {
		t.Errorf("power.Ten(%d) is %#x times 2^%d, whole %v, errors %d and %d; want %#x times 2^%d, %v", k, both, exp, whole, int(e), int(e2), w.t, w.x, w.whole)
	}
	if tens.of == nil {
		tens.of = map[int]tenWords{}
	}
	tens.of[k] = w
	return w
}

// newTen rounds 10^k down to 128 bits.
func newTen(k int) tenWords {
	above, below := big.NewInt(1), big.NewInt(1)
	if k < 0 {
		below.Exp(big.NewInt(10), big.NewInt(int64(-k)), nil)
	} else {
		above.Exp(big.NewInt(10), big.NewInt(int64(k)), nil)
	}
	// So many twos more above than below that at least 128 bits come out.
	x := above.BitLen() - below.BitLen() - 129
	above.Lsh(above, uint(max(-x, 0)))
	below.Lsh(below, uint(max(x, 0)))
	q, r := new(big.Int).QuoRem(above, below, new(big.Int))
	whole := r.Sign() == 0
	for q.BitLen() > 128 {
		whole = whole && q.Bit(0) == 0
		q.Rsh(q, 1)
		x++
	}
	return tenWords{q, x, whole}
}

// bothEnds are what a number over 10^s, told in halves of the least float of f, comes to at its two ends.
func (w tenWords) bothEnds(f api.Form, y *big.Int, come func(n *big.Int, exp int) int64) (int64, bool) {
	exp := w.x + unit(f)
	low := come(new(big.Int).Mul(y, w.t), exp)
	if w.whole {
		return low, true
	}
	high := come(new(big.Int).Mul(y, new(big.Int).Add(w.t, big.NewInt(1))), exp)
	return low, low == high
}

// notBelow is the least whole number that is not below a number, or is above it.
func notBelow(in bool) func(*big.Int, int) int64 {
	return func(n *big.Int, exp int) int64 {
		whole, is, _ := floor(n, exp)
		if is && in {
			return whole.Int64()
		}
		return whole.Int64() + 1
	}
}

// notAbove is the greatest whole number that is not above a number, or is below it.
func notAbove(in bool) func(*big.Int, int) int64 {
	return func(n *big.Int, exp int) int64 {
		whole, is, _ := floor(n, exp)
		if is && !in {
			return whole.Int64() - 1
		}
		return whole.Int64()
	}
}

// nearestTo is the whole number that is nearest to a number, of two the even one.
func nearestTo(n *big.Int, exp int) int64 {
	whole, _, toHalf := floor(n, exp)
	if toHalf > 0 || toHalf == 0 && whole.Bit(0) == 1 {
		return whole.Int64() + 1
	}
	return whole.Int64()
}

// shortest is what P19.1 says of a finite float.
func shortest(t *testing.T, f api.Form, float uint64) told {
	t.Helper()
	neg := float >= minus(f)
	if float %= minus(f); float == 0 {
		return sureOf(api.Dec{Neg: neg})
	}
	low, high, in := reachOf(f, float)
	p := firstOf(f, float)
	for n := 1; n <= mostAsked; n++ {
		s := p + 1 - n
		w := tenWordsOf(t, -s)
		a, aSure := w.bothEnds(f, low, notBelow(in))
		b, bSure := w.bothEnds(f, high, notAbove(in))
		if !aSure || !bSure {
			return told{}
		}
		if a > b {
			continue
		}
		nearest, sure := w.bothEnds(f, worthOf(f, float), nearestTo)
		if !sure {
			return told{}
		}
		if nearest < a {
			nearest = a
		}
		if nearest > b {
			nearest = b
		}
		return sureOf(only(neg, big.NewInt(nearest).String(), s))
	}
	t.Errorf("of %#x of %v no %d digits are in its reach", float, f, mostAsked)
	return told{}
}

// someOfWords are what P19.2 says of a finite float, in 1 to 17 digits.
func someOfWords(t *testing.T, f api.Form, float uint64) [mostAsked]told {
	t.Helper()
	var all [mostAsked]told
	neg := float >= minus(f)
	float %= minus(f)
	at, p := worthOf(f, float), 0
	if float > 0 {
		p = firstOf(f, float)
	}
	for i := range all {
		if float == 0 {
			all[i] = sureOf(api.Dec{Neg: neg})
			continue
		}
		s := p - i
		if nearest, sure := tenWordsOf(t, -s).bothEnds(f, at, nearestTo); sure {
			all[i] = sureOf(only(neg, big.NewInt(nearest).String(), s))
		}
	}
	return all
}

// holds wants of both calls, by all counts of digits and with both signs, what the chapter's words say. It answers of how much both were not sure.
func holds(t *testing.T, f api.Form, float uint64) (unsureDigits, unsureSome int) {
	t.Helper()
	for _, float := range []uint64{float, float ^ minus(f)} {
		want := shortest(t, f, float)
		digitsAre(t, f, float, want)
		if !want.sure {
			unsureDigits++
		}
		for i, want := range someOfWords(t, f, float) {
			someAre(t, f, float, i+1, want)
			if !want.sure {
				unsureSome++
			}
		}
	}
	return unsureDigits, unsureSome
}
