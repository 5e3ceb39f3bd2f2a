package sums

import (
	"math"
	"testing"
)

// twoSumWant is what TwoSum owes, told by fractions.
func twoSumWant(a, b float64) (s, lost float64) {
	s = added(a, b)
	if !isReal(s) {
		return s, 0
	}
	return s, nearest(less(plus(worth(a), worth(b)), worth(s)), false)
}

func twoProdWant(a, b float64) (p, lost float64) {
	p = multiplied(a, b)
	if !isReal(p) {
		return p, 0
	}
	return p, nearest(less(times(worth(a), worth(b)), worth(p)), false)
}

func isReal(x float64) bool { return x == x && !isInfinite(x) }

func checkTwoSum(t *testing.T, a, b float64) {
	t.Helper()
	s, lost := TwoSum(a, b)
	if want, wantLost := twoSumWant(a, b); !same(s, want) || !same(lost, wantLost) {
		t.Errorf("TwoSum(%v, %v): %v lost %v; want %v lost %v", a, b, s, lost, want, wantLost)
	}
	// Exactly, so that nothing is rounded in what is lost.
	if isReal(s) && plus(worth(s), worth(lost)).Cmp(plus(worth(a), worth(b))) != 0 {
		t.Errorf("TwoSum(%v, %v): %v and %v do not come to them", a, b, s, lost)
	}
}

func checkTwoProd(t *testing.T, a, b float64) {
	t.Helper()
	p, lost := TwoProd(a, b)
	if want, wantLost := twoProdWant(a, b); !same(p, want) || !same(lost, wantLost) {
		t.Errorf("TwoProd(%v, %v): %v lost %v; want %v lost %v", a, b, p, lost, want, wantLost)
	}
}

// pairsOf goes through pairs of edges, of floats of one kind, and of floats of any two kinds.
func pairsOf(seed uint64, do func(a, b float64)) {
	for _, a := range edges() {
		for _, b := range edges() {
			do(a, b)
		}
	}
	r := source(seed)
	all := kinds()
	for range 3000 {
		for _, next := range all {
			do(next(r), next(r))
			do(next(r), all[r.IntN(len(all))](r))
		}
	}
}

func TestP94TwoSum(t *testing.T) {
	pairsOf(941, func(a, b float64) { checkTwoSum(t, a, b) })
}

// At the greatest floats no step on the way may overflow, where the sum does not.
func TestP94TwoSumOfTheGreatest(t *testing.T) {
	for i := range 4 {
		a := math.Float64frombits(math.Float64bits(greatest) - uint64(i))
		for exp := 960; exp < 1024; exp++ {
			for _, part := range []float64{1, 1.5, 1 + 2*u, 2 - 2*u} {
				b := math.Ldexp(part, exp)
				checkTwoSum(t, a, b)
				checkTwoSum(t, a, -b)
				checkTwoSum(t, -b, a)
				checkTwoSum(t, -a, b)
			}
		}
	}
}

// Numbers of any distance, so that all of the lesser one is lost, a part, or nothing.
func TestP94TwoSumOfAnyDistance(t *testing.T) {
	r := source(942)
	for apart := range 120 {
		for range 40 {
			a := math.Ldexp(1+r.Float64(), 500) * sign(r)
			b := math.Ldexp(1+r.Float64(), 500-apart) * sign(r)
			checkTwoSum(t, a, b)
			checkTwoSum(t, b, a)
		}
	}
}

func TestP94TwoSumEdges(t *testing.T) {
	for _, c := range []struct{ a, b, s, lost float64 }{
		{1, u, 1, u},
		{u, 1, 1, u},
		{1, 3 * u, 1 + 4*u, -u},
		{-1, -3 * u, -1 - 4*u, u},
		{1, 2, 3, 0},
		{1, -1, 0, 0},
		{1, minus, 1, 0},
		{minus, 1, 1, 0},
		{0, minus, 0, 0},
		{minus, minus, minus, 0},
		{least, -least, 0, 0},
		{least, 1, 1, least},
		{greatest, -least, greatest, -least},
		{greatest, 0x1p969, greatest, 0x1p969},
		{greatest, 0x1p970, inf, 0},
		{-greatest, -greatest, -inf, 0},
		{inf, -inf, none, 0},
		{inf, 1, inf, 0},
		{none, 1, none, 0},
		{1, none, none, 0},
	} {
		if s, lost := TwoSum(c.a, c.b); !same(s, c.s) || !same(lost, c.lost) {
			t.Errorf("TwoSum(%v, %v): %v lost %v; want %v lost %v", c.a, c.b, s, lost, c.s, c.lost)
		}
	}
}

func TestP94TwoProd(t *testing.T) {
	pairsOf(943, func(a, b float64) { checkTwoProd(t, a, b) })
}

// Products about the least floats, where what is lost is rounded, to noughts of both signs, too.
func TestP94TwoProdThatUnderflows(t *testing.T) {
	r := source(944)
	noughts := map[bool]int{}
	for down := range 130 {
		for range 60 {
			a := math.Ldexp(1+r.Float64(), -500) * sign(r)
			b := math.Ldexp(1+r.Float64(), -460-down) * sign(r)
			checkTwoProd(t, a, b)
			n := float64(1 + r.IntN(9))
			checkTwoProd(t, n*least, math.Ldexp(n, -r.IntN(6))*sign(r))
			if _, lost := TwoProd(a, b); lost == 0 {
				noughts[math.Signbit(lost)]++
			}
		}
	}
	if noughts[false] == 0 || noughts[true] == 0 {
		t.Error("what is lost is never a nought of each sign:", noughts)
	}
}

func TestP94TwoProdThatOverflows(t *testing.T) {
	r := source(945)
	for up := range 60 {
		for range 60 {
			checkTwoProd(t, math.Ldexp(1+r.Float64(), 500)*sign(r), math.Ldexp(1+r.Float64(), 500+up)*sign(r))
		}
	}
}

func TestP94TwoProdEdges(t *testing.T) {
	for _, c := range []struct{ a, b, p, lost float64 }{
		{3, 5, 15, 0},
		{-1, 0, minus, 0},
		{minus, minus, 0, 0},
		{0, 5, 0, 0},
		{1 + 0x1p-30, 1 + 0x1p-30, 1 + 0x1p-29, 0x1p-60},
		{1 + 0x1p-30, -1 - 0x1p-30, -1 - 0x1p-29, -0x1p-60},
		{least, 0.5, 0, 0},
		{least, -0.5, minus, minus},
		{-least, 0.25, minus, minus},
		{least, 0.75, least, minus},
		{-least, 0.75, -least, 0},
		{least, 1.25, least, 0},
		{-least, 1.25, -least, minus},
		{least, 1.5, 2 * least, minus},
		{3 * least, 0.5, 2 * least, minus},
		{greatest, 2, inf, 0},
		{-greatest, greatest, -inf, 0},
		{0, inf, none, 0},
		{none, 0, none, 0},
		{inf, -2, -inf, 0},
		{greatest, 1 - u, math.Nextafter(greatest, 0), 0x1p918},
	} {
		if p, lost := TwoProd(c.a, c.b); !same(p, c.p) || !same(lost, c.lost) {
			t.Errorf("TwoProd(%v, %v): %v lost %v; want %v lost %v", c.a, c.b, p, lost, c.p, c.lost)
		}
	}
}
