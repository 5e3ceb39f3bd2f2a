package sums

import (
	"math"
	"slices"
	"testing"
)

// plainWant is what Plain owes, step by step.
func plainWant(l []float64) float64 {
	if len(l) == 0 {
		return 0
	}
	s := l[0]
	for _, x := range l[1:] {
		s = added(s, x)
	}
	return s
}

func backWant(l []float64) float64 {
	turned := slices.Clone(l)
	slices.Reverse(turned)
	return plainWant(turned)
}

func pairsWant(l []float64) float64 {
	n := len(l)
	if n < 2 {
		return plainWant(l)
	}
	return added(pairsWant(l[:n/2]), pairsWant(l[n/2:]))
}

// risingWant chooses one float behind another: none of those left must stand ahead of it.
func risingWant(l []float64) float64 {
	if slices.ContainsFunc(l, math.IsNaN) {
		return none
	}
	left := slices.Clone(l)
	var order []float64
	for len(left) > 0 {
		next := 0
		for i, x := range left {
			y := left[next]
			if math.Abs(x) < math.Abs(y) || math.Abs(x) == math.Abs(y) && math.Signbit(x) && !math.Signbit(y) {
				next = i
			}
		}
		order = append(order, left[next])
		left = slices.Delete(left, next, next+1)
	}
	return plainWant(order)
}

func kahanWant(l []float64) float64 {
	if len(l) == 0 {
		return 0
	}
	s, c := l[0], 0.0
	for _, x := range l[1:] {
		y := taken(x, c)
		t := added(s, y)
		c = taken(taken(t, s), y)
		s = t
	}
	return s
}

func neumaierWant(l []float64) float64 {
	if len(l) < 2 {
		return plainWant(l)
	}
	s, c := l[0], 0.0
	for _, x := range l[1:] {
		t := added(s, x)
		lost := added(taken(s, t), x)
		if math.Abs(s) < math.Abs(x) {
			lost = added(taken(x, t), s)
		}
		c = added(c, lost)
		s = t
	}
	return added(s, c)
}

func TestP91Plain(t *testing.T) {
	eachList(911, func(l []float64) { wants(t, "Plain", l, Plain(l), plainWant(l)) })
}

func TestP91Back(t *testing.T) {
	eachList(912, func(l []float64) { wants(t, "Back", l, Back(l), backWant(l)) })
}

func TestP91Pairs(t *testing.T) {
	eachList(913, func(l []float64) { wants(t, "Pairs", l, Pairs(l), pairsWant(l)) })
}

func TestP91Rising(t *testing.T) {
	eachList(914, func(l []float64) { wants(t, "Rising", l, Rising(l), risingWant(l)) })
}

// Six sums of one list, no two of them alike.
func TestP91AndP92AreNotOneAnother(t *testing.T) {
	l := []float64{3, 0x1p54, 0x1p54, -0x1p55, 2}
	wants(t, "Plain", l, Plain(l), 2)
	wants(t, "Back", l, Back(l), 3)
	wants(t, "Pairs", l, Pairs(l), 4)
	wants(t, "Rising", l, Rising(l), 0)
	wants(t, "Kahan", l, Kahan(l), 6)
	wants(t, "Neumaier", l, Neumaier(l), 5)
}

// Of an odd number of floats the second half has one more.
func TestP91PairsOfThree(t *testing.T) {
	for _, c := range []struct {
		l    []float64
		want float64
	}{
		{[]float64{0x1p53, 1, 1}, 0x1p53 + 2},
		{[]float64{1, 1, 0x1p53}, 0x1p53},
		{[]float64{1, 1, 0x1p53, 0, 0}, 0x1p53 + 2},
		{[]float64{0, 0, 1, 1, 0x1p53}, 0x1p53},
	} {
		wants(t, "Pairs", c.l, Pairs(c.l), c.want)
	}
}

func TestP91RisingOfSigns(t *testing.T) {
	for _, c := range []struct {
		l    []float64
		want float64
	}{
		{[]float64{0x1p60, -1, 1}, 0x1p60},
		{[]float64{1, 0x1p60, -0x1p60}, 0},
		{[]float64{greatest, -greatest, greatest}, greatest},
		{[]float64{greatest, greatest, -greatest}, greatest},
		{[]float64{-greatest, -greatest, greatest}, -inf},
		{[]float64{minus, 0}, 0},
		{[]float64{0, minus}, 0},
		{[]float64{minus, minus, minus}, minus},
		{[]float64{inf, -inf}, none},
		{[]float64{inf, none}, none},
		{[]float64{none, 1, 2}, none},
		{[]float64{5, -inf, 3}, -inf},
	} {
		wants(t, "Rising", c.l, Rising(c.l), c.want)
	}
}

func TestP91Overflows(t *testing.T) {
	for _, c := range []struct {
		l                          []float64
		plain, back, pairs, rising float64
	}{
		{[]float64{greatest, greatest, -greatest}, inf, greatest, greatest, greatest},
		{[]float64{greatest, -greatest, greatest}, greatest, greatest, greatest, greatest},
		{[]float64{-greatest, greatest, greatest}, greatest, inf, inf, greatest},
		{[]float64{greatest, greatest, -greatest, -greatest}, inf, -inf, none, -inf},
		{[]float64{greatest, 0x1p969}, greatest, greatest, greatest, greatest},
		{[]float64{greatest, 0x1p970}, inf, inf, inf, inf},
	} {
		wants(t, "Plain", c.l, Plain(c.l), c.plain)
		wants(t, "Back", c.l, Back(c.l), c.back)
		wants(t, "Pairs", c.l, Pairs(c.l), c.pairs)
		wants(t, "Rising", c.l, Rising(c.l), c.rising)
	}
}

func TestP92Kahan(t *testing.T) {
	eachList(921, func(l []float64) { wants(t, "Kahan", l, Kahan(l), kahanWant(l)) })
}

func TestP92Neumaier(t *testing.T) {
	eachList(922, func(l []float64) { wants(t, "Neumaier", l, Neumaier(l), neumaierWant(l)) })
}

func TestP92Edges(t *testing.T) {
	for _, c := range []struct {
		l               []float64
		kahan, neumaier float64
	}{
		{nil, 0, 0},
		{[]float64{minus}, minus, minus},
		{[]float64{minus, minus}, minus, 0},
		{[]float64{none}, none, none},
		{[]float64{inf}, inf, inf},
		{[]float64{-inf}, -inf, -inf},
		{[]float64{1, inf}, inf, none},
		{[]float64{inf, 1}, inf, none},
		{[]float64{1, inf, 1}, none, none},
		{[]float64{inf, -inf}, none, none},
		{[]float64{greatest, greatest}, inf, none},
		{[]float64{greatest, greatest, -greatest}, none, none},
		{[]float64{1, 0x1p100, 1, -0x1p100}, 0, 2},
		{[]float64{0x1p53, 1, 1}, 0x1p53 + 2, 0x1p53 + 2},
		{[]float64{1, u, u, u, u}, 1 + 4*u, 1 + 4*u},
		{[]float64{least, -least}, 0, 0},
	} {
		wants(t, "Kahan", c.l, Kahan(c.l), c.kahan)
		wants(t, "Neumaier", c.l, Neumaier(c.l), c.neumaier)
	}
}

// Of none, and of one float, all sums are told alike.
func TestP91AndP92OfNoneAndOne(t *testing.T) {
	for what, sum := range allSums() {
		wants(t, what, nil, sum(nil), 0)
		wants(t, what, nil, sum([]float64{}), 0)
		for _, x := range edges() {
			wants(t, what, []float64{x}, sum([]float64{x}), x)
		}
	}
}

func allSums() map[string]func(l []float64) float64 {
	return map[string]func(l []float64) float64{"Plain": Plain, "Back": Back, "Pairs": Pairs, "Rising": Rising, "Kahan": Kahan, "Neumaier": Neumaier, "Exact": Exact}
}

// Where no error is answered, a list may be longer than MaxList.
func TestP91ToP93OfLongLists(t *testing.T) {
	l := make([]float64, 300001)
	for i := range l {
		l[i] = float64(i%1000) - 499.5
	}
	want := -499.5 // 300 times a thousand that come to nought, and one more
	for what, sum := range allSums() {
		if got := sum(l); got != want {
			t.Errorf("%s of %d floats: %v, want %v", what, len(l), got, want)
		}
	}
	for i := range l {
		l[i] = 0.1
	}
	if got, want := Exact(l), nearest(times(worth(0.1), worth(300001)), false); got != want {
		t.Errorf("Exact of 300001 times 0.1: %v, want %v", got, want)
	}
	if plain := Plain(l); plain == Exact(l) {
		t.Errorf("Plain of 300001 times 0.1 loses nothing: %v", plain)
	}
}
