package soft

import (
	"testing"

	"numeral/api"
)

// wantQuotient is P7.4, word by word.
func wantQuotient(f api.Form, a, b uint64, mode uint8) told {
	if answer, is := ofNaNs(f, a, b); is {
		return answer
	}
	neg := isNeg(f, a) != isNeg(f, b)
	switch {
	case isInf(f, a) && isInf(f, b), isZero(f, a) && isZero(f, b):
		return noAnswer(f)
	case isInf(f, a):
		return told{bits: signed(f, infinity(f), neg)}
	case isInf(f, b):
		return told{bits: signed(f, 0, neg)}
	case isZero(f, b):
		return told{bits: signed(f, infinity(f), neg), flags: divide}
	}
	return rounds(f, over(worth(f, a), worth(f, b)), neg, mode)
}

func TestP74Div(t *testing.T) { throughPairs(t, "Div", Div, wantQuotient) }

func TestP74NoughtsAndInfinities(t *testing.T) {
	for _, f := range edgeForms() {
		inf := infinity(f)
		for _, mode := range everyMode {
			for _, signs := range [][2]bool{{false, false}, {false, true}, {true, false}, {true, true}} {
				neg := signs[0] != signs[1]
				check := func(a, b uint64, want told) {
					t.Helper()
					a, b = signed(f, a, signs[0]), signed(f, b, signs[1])
					wants(t, tell(Div(f, a, b, mode)), want, "Div", f, mode, a, b)
				}
				check(inf, inf, noAnswer(f))
				check(0, 0, noAnswer(f))
				check(inf, 0, told{bits: signed(f, inf, neg)})
				check(0, inf, told{bits: signed(f, 0, neg)})
				for _, x := range []uint64{1, normal(f) - 1, normal(f), one(f), greatest(f)} {
					check(inf, x, told{bits: signed(f, inf, neg)})
					check(x, inf, told{bits: signed(f, 0, neg)})
					check(x, 0, told{bits: signed(f, inf, neg), flags: divide})
					check(0, x, told{bits: signed(f, 0, neg)})
					check(x, x, told{bits: signed(f, one(f), neg)})
				}
			}
		}
	}
}

// Quotients just beside a half: of the two floats between which a half times the divisor lies.
func TestP74BesideAHalf(t *testing.T) {
	t.Parallel()
	eachForm(t, []api.Form{half, brain, single, double, form(11, 1), form(4, 52), form(6, 9)}, func(t *testing.T, f api.Form) {
		r := source(41)
		for _, middle := range targets(f, 4, 200) {
			b := about(r, f)
			for _, mode := range []uint8{api.Up, api.Down} {
				a := rounds(f, times(middle, worth(f, b)), false, mode).bits
				checkTwo(t, "Div", Div, wantQuotient, f, a, b)
				checkTwo(t, "Div", Div, wantQuotient, f, a, b+minus(f))
			}
		}
	})
}

// The least and the greatest floats, over one another and over those about 1.
func TestP74Ends(t *testing.T) {
	for _, f := range allForms() {
		g, inf := greatest(f), infinity(f)
		for mode, want := range [5]uint64{inf, inf, g, inf, g} {
			wants(t, tell(Div(f, g, 1, uint8(mode))), told{bits: want, flags: overflow}, "Div", f, uint8(mode), g, 1)
			wants(t, tell(Div(f, g+minus(f), minus(f)+1, uint8(mode))), told{bits: want, flags: overflow}, "Div", f, uint8(mode), g, 1)
		}
		for mode, want := range [5]uint64{inf, inf, g, g, inf} {
			wants(t, tell(Div(f, g+minus(f), 1, uint8(mode))), told{bits: want + minus(f), flags: overflow}, "Div", f, uint8(mode), g, 1)
		}
		checkTwo(t, "Div", Div, wantQuotient, f, 1, g)
		checkTwo(t, "Div", Div, wantQuotient, f, minus(f)+1, g)
		checkTwo(t, "Div", Div, wantQuotient, f, 1, one(f)+1)
		checkTwo(t, "Div", Div, wantQuotient, f, normal(f), one(f)+1)
		checkTwo(t, "Div", Div, wantQuotient, f, normal(f)-1, one(f)-1)
	}
}

// Halves of subnormal floats: just a half between two, exact where they are even.
func TestP74HalvesOfSubnormals(t *testing.T) {
	two := uint64(0x4000)
	for _, c := range []struct {
		a    uint64
		want [5]told
	}{
		{1, [5]told{{0, underflow, 0}, {1, underflow, 0}, {0, underflow, 0}, {1, underflow, 0}, {0, underflow, 0}}},
		{2, [5]told{{1, 0, 0}, {1, 0, 0}, {1, 0, 0}, {1, 0, 0}, {1, 0, 0}}},
		{3, [5]told{{2, underflow, 0}, {2, underflow, 0}, {1, underflow, 0}, {2, underflow, 0}, {1, underflow, 0}}},
		{0x07ff, [5]told{{0x0400, underflow, 0}, {0x0400, underflow, 0}, {0x03ff, underflow, 0}, {0x0400, underflow, 0}, {0x03ff, underflow, 0}}},
		{0x8003, [5]told{{0x8002, underflow, 0}, {0x8002, underflow, 0}, {0x8001, underflow, 0}, {0x8001, underflow, 0}, {0x8002, underflow, 0}}},
	} {
		for mode, want := range c.want {
			wants(t, tell(Div(half, c.a, two, uint8(mode))), want, "Div", half, uint8(mode), c.a, two)
		}
	}
}
