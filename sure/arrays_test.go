package sure

import (
	"math"
	"math/big"
	"math/rand/v2"
	"testing"

	"numeral/api"
)

// The ends that both calls work with, held to the last bit: hardly any float would tell.

// whole is the words as one number, the highest first.
func whole(words ...uint64) *big.Int {
	n := new(big.Int)
	for _, w := range words {
		n.Lsh(n, 64)
		n.Or(n, new(big.Int).SetUint64(w))
	}
	return n
}

// isWorth is whether a fraction is just n times 2^exp.
func isWorth(x api.Ratio, n uint64, exp int) bool {
	limbs := func(m api.Nat) *big.Int {
		sum := new(big.Int)
		for i, l := range m.Limbs {
			sum.Or(sum, new(big.Int).Lsh(big.NewInt(int64(l)), uint(32*i)))
		}
		return sum
	}
	left := limbs(x.Num)
	right := new(big.Int).Mul(limbs(x.Den), new(big.Int).SetUint64(n))
	left.Lsh(left, uint(max(-exp, 0)))
	right.Lsh(right, uint(max(exp, 0)))
	return !x.Neg && left.Cmp(right) == 0
}

// someWord is a word of which many bits are alike.
func someWord(r *rand.Rand) uint64 {
	switch r.IntN(5) {
	case 0:
		return 0
	case 1:
		return math.MaxUint64
	case 2:
		return 1 << r.IntN(64)
	case 3:
		return math.MaxUint64 << r.IntN(64)
	}
	return r.Uint64()
}

func TestP191P192Products(t *testing.T) {
	r := source(80)
	for range 20000 {
		y, hi, lo := someWord(r), someWord(r), someWord(r)
		n := product(y, [2]uint64{hi, lo})
		want := new(big.Int).Mul(whole(y), whole(hi, lo))
		if whole(n[:]...).Cmp(want) != 0 {
			t.Fatalf("%#x times %#x %#x: %#x", y, hi, lo, n)
		}
		more := n.plus(y)
		if want.Add(want, whole(y)); whole(more[:]...).Cmp(want) != 0 {
			t.Fatalf("%#x and %#x: %#x", n, y, more)
		}
	}
}

func TestP191P192Points(t *testing.T) {
	r := source(81)
	for range 20000 {
		n := triple{someWord(r), someWord(r), someWord(r)}
		size := whole(n[:]...).BitLen()
		exp := -192 + r.IntN(min(192+64-size, 192)+1)
		p := n.times2(exp)
		if want := new(big.Int).Lsh(whole(n[:]...), uint(192+exp)); whole(p[:]...).Cmp(want) != 0 {
			t.Fatalf("%#x times 2^%d: %#x", n, exp, p)
		}
	}
}

// The whole numbers about a point, where all behind it is nought, just a half, or a bit more or less, in each word.
func TestP191P192WholeNumbersAboutAPoint(t *testing.T) {
	const half, all = 1 << 63, math.MaxUint64
	for _, n := range []uint64{1, 2, 3, 99, 100, 1e17, 1e17 + 1} {
		even := n + n%2
		for _, c := range []struct {
			p                                      point
			atMost, above, atLeast, below, nearest uint64
		}{
			{point{n}, n, n + 1, n, n - 1, n},
			{point{n, 0, 0, 1}, n, n + 1, n + 1, n, n},
			{point{n, 0, 1, 0}, n, n + 1, n + 1, n, n},
			{point{n, 1, 0, 0}, n, n + 1, n + 1, n, n},
			{point{n, half - 1, all, all}, n, n + 1, n + 1, n, n},
			{point{n, half, 0, 0}, n, n + 1, n + 1, n, even},
			{point{n, half, 0, 1}, n, n + 1, n + 1, n, n + 1},
			{point{n, half, 1, 0}, n, n + 1, n + 1, n, n + 1},
			{point{n, half + 1, 0, 0}, n, n + 1, n + 1, n, n + 1},
			{point{n, all, all, all}, n, n + 1, n + 1, n, n + 1},
		} {
			if p := c.p; p.atMost() != c.atMost || p.above() != c.above || p.atLeast() != c.atLeast || p.below() != c.below || p.nearest() != c.nearest {
				t.Errorf("about %#x: at most %d, above %d, at least %d, below %d, nearest %d", p, p.atMost(), p.above(), p.atLeast(), p.below(), p.nearest())
			}
		}
	}
}

// y's ends over 10^s, of every power that floats ask for, are what T, and T and one, tell.
func TestP191P192Ends(t *testing.T) {
	r := source(82)
	for k := -400; k <= 400; k++ {
		w, tn := tenWordsOf(t, k), tenOf(k)
		for range 20 {
			y := 1 + r.Uint64N(1<<(1+r.IntN(55))-1)
			exp := -w.x - 192 + r.IntN(60)
			got := tn.times(y, exp)
			low := new(big.Int).Mul(whole(y), w.t)
			high := low
			if !w.whole {
				high = new(big.Int).Add(low, whole(y))
			}
			up := uint(w.x + exp + 192)
			if whole(got[0][:]...).Cmp(low.Lsh(low, up)) != 0 || !w.whole && whole(got[1][:]...).Cmp(high.Lsh(high, up)) != 0 || w.whole && got[0] != got[1] {
				t.Errorf("%d times 10^%d times 2^%d: %#x", y, k, exp, got)
			}
		}
	}
}

// first is the chapter's p, of floats just below powers of ten and just above, in every form.
func TestP191P192FirstDigits(t *testing.T) {
	t.Parallel()
	r := source(83)
	for _, f := range allForms() {
		for range 6 {
			float := someFloat(r, f) % minus(f)
			firstIs(t, f, float)
		}
	}
	for _, f := range someForms() {
		for _, float := range append(aboutTens(f), wholes(f)...) {
			if float < infinite(f) {
				firstIs(t, f, float)
			}
		}
	}
}

func firstIs(t *testing.T, f api.Form, float uint64) {
	t.Helper()
	n, e := numberOf(f, float)
	if e != api.OK || n.first() != firstOf(f, float) {
		t.Errorf("the first digit of %#x of %v stands at %d, not %d; error %d", float, f, n.first(), firstOf(f, float), int(e))
	}
}
