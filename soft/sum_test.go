package soft

import (
	"testing"

	"numeral/api"
)

// wantSum is P7.2, word by word.
func wantSum(f api.Form, a, b uint64, mode uint8) told {
	if answer, is := ofNaNs(f, a, b); is {
		return answer
	}
	switch {
	case isInf(f, a) && isInf(f, b):
		if a == b {
			return told{bits: a}
		}
		return noAnswer(f)
	case isInf(f, a):
		return told{bits: a}
	case isInf(f, b):
		return told{bits: b}
	}
	neg := mode == api.Down
	if isZero(f, a) && a == b {
		neg = isNeg(f, a)
	}
	return rounds(f, plus(worth(f, a), worth(f, b)), neg, mode)
}

func wantDifference(f api.Form, a, b uint64, mode uint8) told {
	return wantSum(f, a, b^minus(f), mode)
}

func TestP72Add(t *testing.T) { throughPairs(t, "Add", Add, wantSum) }

func TestP72Sub(t *testing.T) { throughPairs(t, "Sub", Sub, wantDifference) }

func TestP72Noughts(t *testing.T) {
	for _, f := range edgeForms() {
		neg, x := minus(f), one(f)+1
		for _, mode := range everyMode {
			cancelled := signed(f, 0, mode == api.Down)
			for _, c := range []struct{ a, b, want uint64 }{
				{0, 0, 0}, {neg, neg, neg}, {0, neg, cancelled}, {neg, 0, cancelled},
				{x, x + neg, cancelled}, {x + neg, x, cancelled}, {1, 1 + neg, cancelled}, {greatest(f) + neg, greatest(f), cancelled},
				{x, 0, x}, {x, neg, x}, {0, x + neg, x + neg}, {neg, 1, 1}, {neg, neg + 1, neg + 1},
			} {
				wants(t, tell(Add(f, c.a, c.b, mode)), told{bits: c.want}, "Add", f, mode, c.a, c.b)
				wants(t, tell(Sub(f, c.a, c.b^neg, mode)), told{bits: c.want}, "Sub", f, mode, c.a, c.b^neg)
			}
		}
	}
}

func TestP72Infinities(t *testing.T) {
	for _, f := range edgeForms() {
		inf, neg := infinity(f), minus(f)
		for _, mode := range everyMode {
			for _, sign := range []uint64{0, neg} {
				wants(t, tell(Add(f, inf|sign, inf|sign, mode)), told{bits: inf | sign}, "Add", f, mode, inf|sign, inf|sign)
				wants(t, tell(Add(f, inf|sign, inf|sign^neg, mode)), noAnswer(f), "Add", f, mode, inf|sign, inf|sign^neg)
				wants(t, tell(Sub(f, inf|sign, inf|sign, mode)), noAnswer(f), "Sub", f, mode, inf|sign, inf|sign)
				wants(t, tell(Sub(f, inf|sign, inf|sign^neg, mode)), told{bits: inf | sign}, "Sub", f, mode, inf|sign, inf|sign^neg)
				for _, x := range edges(f) {
					wants(t, tell(Add(f, inf|sign, x, mode)), told{bits: inf | sign}, "Add", f, mode, inf|sign, x)
					wants(t, tell(Add(f, x, inf|sign, mode)), told{bits: inf | sign}, "Add", f, mode, x, inf|sign)
					wants(t, tell(Sub(f, x, inf|sign, mode)), told{bits: inf | sign ^ neg}, "Sub", f, mode, x, inf|sign)
				}
			}
		}
	}
}

// One and just half of its last place, a little less, a little more; of the float behind one likewise.
func TestP72BesideAHalf(t *testing.T) {
	for _, f := range []api.Form{half, single, double, form(11, 1), form(6, 20)} {
		x, y := one(f), one(f)+1
		place := uint64(bias(f)-f.Frac-1) << f.Frac
		for _, c := range []struct {
			a, b uint64
			want [5]uint64
		}{
			{x, place, [5]uint64{x, x + 1, x, x + 1, x}},
			{x, place - 1, [5]uint64{x, x, x, x + 1, x}},
			{x, place + 1, [5]uint64{x + 1, x + 1, x, x + 1, x}},
			{y, place, [5]uint64{y + 1, y + 1, y, y + 1, y}},
			{y, place - 1, [5]uint64{y, y, y, y + 1, y}},
			{y, place + 1, [5]uint64{y + 1, y + 1, y, y + 1, y}},
		} {
			for mode, want := range c.want {
				wants(t, tell(Add(f, c.a, c.b, uint8(mode))), told{bits: want, flags: inexact}, "Add", f, uint8(mode), c.a, c.b)
			}
			checkTwo(t, "Add", Add, wantSum, f, c.a, c.b)
			checkTwo(t, "Add", Add, wantSum, f, c.b+minus(f), c.a+minus(f))
			checkTwo(t, "Sub", Sub, wantDifference, f, c.a, c.b)
		}
	}
}

// Sums at the ends: what overflows just by a little, what does not, and the least floats, whose sums are exact.
func TestP72Ends(t *testing.T) {
	for _, f := range edgeForms() {
		g, inf := greatest(f), infinity(f)
		lost := [5]told{{inf, overflow, 0}, {inf, overflow, 0}, {g, overflow, 0}, {inf, overflow, 0}, {g, overflow, 0}}
		for mode, want := range lost {
			wants(t, tell(Add(f, g, g, uint8(mode))), want, "Add", f, uint8(mode), g, g)
			wants(t, tell(Sub(f, g, g+minus(f), uint8(mode))), want, "Sub", f, uint8(mode), g, g+minus(f))
		}
		for _, mode := range everyMode {
			wants(t, tell(Add(f, 1, 1, mode)), told{bits: 2}, "Add", f, mode, 1, 1)
			wants(t, tell(Sub(f, normal(f), 1, mode)), told{bits: normal(f) - 1}, "Sub", f, mode, normal(f), 1)
			wants(t, tell(Add(f, normal(f)-1, 1, mode)), told{bits: normal(f)}, "Add", f, mode, normal(f)-1, 1)
			wants(t, tell(Sub(f, 1, 2, mode)), told{bits: minus(f) + 1}, "Sub", f, mode, 1, 2)
		}
	}
	// Half of the greatest float's last place is the first that overflows to the nearest.
	h, g := half, greatest(half)
	for _, c := range []struct {
		b    uint64
		want [5]told
	}{
		{0x4c00, [5]told{{0x7c00, overflow, 0}, {0x7c00, overflow, 0}, {g, inexact, 0}, {0x7c00, overflow, 0}, {g, inexact, 0}}},
		{0x4bff, [5]told{{g, inexact, 0}, {g, inexact, 0}, {g, inexact, 0}, {0x7c00, overflow, 0}, {g, inexact, 0}}},
		{0x5000, [5]told{{0x7c00, overflow, 0}, {0x7c00, overflow, 0}, {g, overflow, 0}, {0x7c00, overflow, 0}, {g, overflow, 0}}},
	} {
		for mode, want := range c.want {
			wants(t, tell(Add(h, g, c.b, uint8(mode))), want, "Add", h, uint8(mode), g, c.b)
		}
	}
}

// Floats that lie as far apart as may be.
func TestP72FarApart(t *testing.T) {
	for _, f := range []api.Form{double, form(11, 1), half} {
		for _, big := range []uint64{greatest(f), greatest(f) - 1, one(f), normal(f) + infinity(f)/2} {
			for _, small := range []uint64{1, 2, minus(f) + 1, normal(f), minus(f) + normal(f)} {
				checkTwo(t, "Add", Add, wantSum, f, big, small)
				checkTwo(t, "Sub", Sub, wantDifference, f, small, big)
			}
		}
	}
}
