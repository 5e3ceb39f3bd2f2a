package sums

import (
	"math"
	"math/big"
	"math/rand/v2"
	"slices"
	"testing"
)

func TestP99AnyOrder(t *testing.T) {
	r := source(991)
	eachList(992, func(l []float64) {
		mixed := shuffled(r, l)
		wants(t, "Exact in another order", l, Exact(mixed), Exact(l))
		turned := slices.Clone(l)
		slices.Reverse(turned)
		wants(t, "Exact from behind", l, Exact(turned), Exact(l))
		got, e := Mean(mixed)
		want, wantErr := Mean(l)
		wants(t, "Mean in another order", l, got, want)
		if e != wantErr {
			t.Errorf("Mean of %v in another order: error %d, want %d", l, int(e), int(wantErr))
		}
	})
}

func TestP99AnyOrderOfPairs(t *testing.T) {
	r := source(993)
	eachList(994, func(a []float64) {
		b := shuffled(r, a)
		c, d := slices.Clone(a), slices.Clone(b)
		r.Shuffle(len(c), func(i, j int) { c[i], c[j], d[i], d[j] = c[j], c[i], d[j], d[i] })
		got, _ := DotExact(c, d)
		want, _ := DotExact(a, b)
		wants(t, "DotExact in another order", a, got, want)
	})
}

func TestP99TwoOfBAndA(t *testing.T) {
	pairsOf(995, func(a, b float64) {
		s, lost := TwoSum(a, b)
		if z, other := TwoSum(b, a); !same(s, z) || !same(lost, other) {
			t.Errorf("TwoSum(%v, %v): %v lost %v, and turned %v lost %v", a, b, s, lost, z, other)
		}
		p, lost := TwoProd(a, b)
		if z, other := TwoProd(b, a); !same(p, z) || !same(lost, other) {
			t.Errorf("TwoProd(%v, %v): %v lost %v, and turned %v lost %v", a, b, p, lost, z, other)
		}
	})
}

// wholes are whole numbers whose sum without signs is just so much, or as far as so many of them go.
func wholes(r *rand.Rand, n int, sum int64) (l []float64, want int64) {
	for i := range n {
		x := r.Int64N(sum + 1)
		if i == n-1 {
			x = sum
		}
		sum -= x
		if r.IntN(2) == 0 {
			x = -x
		}
		l, want = append(l, float64(x)), want+x
	}
	return shuffled(r, l), want
}

func TestP99WholeNumbers(t *testing.T) {
	r := source(996)
	for range 2000 {
		l, want := wholes(r, 1+r.IntN(40), int64(1)<<r.IntN(54))
		for what, sum := range allSums() {
			if got := sum(l); got != float64(want) {
				t.Errorf("%s(%v): %v, want %v", what, l, got, want)
			}
		}
		if got, _ := Dot(l, ones(len(l))); got != float64(want) {
			t.Errorf("Dot of %v and ones: %v, want %v", l, got, want)
		}
	}
}

func ones(n int) []float64 { return slices.Repeat([]float64{1}, n) }

// Exact is the product with ones.
func TestP99DotExactOfOnes(t *testing.T) {
	eachList(997, func(l []float64) {
		got, _ := DotExact(l, ones(len(l)))
		wants(t, "DotExact with ones", l, got, Exact(l))
	})
}

// checkBound holds how far Plain is from the sum against what Bound says.
func checkBound(t *testing.T, l []float64) {
	t.Helper()
	plain := Plain(l)
	if !isReal(plain) {
		return
	}
	off := less(worth(plain), sumOf(l))
	if bound := Bound(l); !isInfinite(bound) && off.Abs(off).Cmp(worth(bound)) > 0 {
		t.Errorf("Plain(%v) is %v, and farther from the sum than %v", l, plain, bound)
	}
}

func TestP99Bound(t *testing.T) {
	eachList(998, func(l []float64) { checkBound(t, l) })
	r := source(999)
	for n := range 60 {
		// Each step loses as much as one may.
		l := append([]float64{1}, slices.Repeat([]float64{u}, n)...)
		checkBound(t, l)
		checkBound(t, shuffled(r, l))
	}
}

// checkNearest holds Exact against its neighbours.
func checkNearest(t *testing.T, l []float64) {
	t.Helper()
	v := Exact(l)
	if _, is := whatEdgesSay(l); is || isInfinite(v) {
		return
	}
	sum := sumOf(l)
	off := distance(v, sum)
	for _, end := range []float64{inf, -inf} {
		if beside := math.Nextafter(v, end); !isInfinite(beside) && distance(beside, sum).Cmp(off) < 0 {
			t.Errorf("Exact(%v) is %v, and %v is nearer", l, v, beside)
		}
	}
}

func distance(v float64, x *big.Rat) *big.Rat {
	d := less(worth(v), x)
	return d.Abs(d)
}

func TestP99ExactIsTheNearest(t *testing.T) {
	eachList(990, func(l []float64) { checkNearest(t, l) })
}
