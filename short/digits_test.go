package short

import (
	"math"
	"math/big"
	"testing"

	"numeral/api"
	"numeral/digits"
	"numeral/ratio"
	"numeral/round"
)

// tried is what all decimals of so many digits come to that are above nought, tried one by one, the fewest digits first: for each float, by its bits, the best of those that round to it by a mode, without an overflow.
func tried(t *testing.T, f api.Form, mode uint8, most int) map[uint64]api.Dec {
	t.Helper()
	best := map[uint64]api.Dec{}
	low, high := magnitude(worthOf(f, 1))-2, magnitude(worthOf(f, infinite(f)))+1
	for n := 1; n <= most; n++ {
		first := int(power10(n - 1).Int64())
		for m := first; m < 10*first; m++ {
			if m%10 == 0 {
				continue
			}
			whole := ratio.Whole(m)
			for exp := low - n + 1; exp <= high-n+1; exp++ {
				float, flags, e := round.Scaled(f, whole, exp, false, mode)
				if e != api.OK {
					t.Fatalf("%d e %d is not rounded: error %d", m, exp, int(e))
				}
				if float == 0 || flags&api.FlagOverflow != 0 {
					continue
				}
				d := only(false, big.NewInt(int64(m)).String(), exp)
				if other, ok := best[float]; !ok || len(other.Digits) == n && better(d, other, worthOf(f, float)) {
					best[float] = d
				}
			}
		}
	}
	return best
}

// allTried wants, of all floats of a form with both signs, what all decimals come to that are tried.
func allTried(t *testing.T, f api.Form, mode uint8) {
	enough, e := digits.Enough(f)
	if e != api.OK {
		t.Fatalf("Enough(%v): error %d", f, int(e))
	}
	best := tried(t, f, mode, enough)
	for float := uint64(1); float < infinite(f); float++ {
		d, ok := best[float]
		if !ok {
			t.Fatalf("no decimal of %d digits rounds to %#x of %v by the mode %d", enough, float, f, mode)
		}
		digitsAre(t, f, float, mode, d)
		digitsAre(t, f, float+minus(f), mirrored[mode], turned(d))
	}
}

// P18.1 and P18.4, of every float of these forms.
func TestP181AllDecimalsTried(t *testing.T) {
	t.Parallel()
	for _, f := range append(smallForms(), half) {
		for _, mode := range everyMode {
			t.Run("", func(t *testing.T) {
				t.Parallel()
				allTried(t, f, mode)
			})
		}
	}
}

// holds wants, by all modes and with both signs, what the chapter's words owe of a float.
func holds(t *testing.T, f api.Form, float uint64) {
	t.Helper()
	for _, float := range []uint64{float, float ^ minus(f)} {
		for _, mode := range everyMode {
			want := api.Dec{Neg: float >= minus(f)}
			if float%minus(f) != 0 {
				want = bestOf(t, f, float, mode)
			}
			digitsAre(t, f, float, mode, want)
		}
	}
}

// Every float of Brain would be many: these are some of each part.
func TestP181Brain(t *testing.T) {
	t.Parallel()
	for float := uint64(1); float < infinite(brain); float += 11 {
		holds(t, brain, float)
	}
}

func TestP181Edges(t *testing.T) {
	t.Parallel()
	for _, f := range someForms() {
		for _, float := range edges(f) {
			holds(t, f, float)
		}
	}
}

func TestP181EdgesOfEveryForm(t *testing.T) {
	t.Parallel()
	for _, f := range allForms() {
		for _, float := range []uint64{0, 1, normal(f) - 1, normal(f), uint64(bias(f)) << f.Frac, infinite(f) - 1} {
			mode := everyMode[(f.Exp+f.Frac)%5]
			want := api.Dec{}
			if float != 0 {
				want = bestOf(t, f, float, mode)
			}
			digitsAre(t, f, float, mode, want)
		}
	}
}

// Below a power of two floats lie closer than above it.
func TestP181PowersOfTwo(t *testing.T) {
	t.Parallel()
	for _, f := range someForms() {
		t.Run("", func(t *testing.T) {
			t.Parallel()
			for _, float := range aboutPowers(f, 25) {
				holds(t, f, float)
			}
		})
	}
}

func TestP181WholeNumbers(t *testing.T) {
	t.Parallel()
	for _, f := range []api.Form{half, brain, single, double, form(6, 30)} {
		for _, float := range wholes(f) {
			holds(t, f, float)
			holds(t, f, float+1)
		}
	}
}

func TestP181SomeFloats(t *testing.T) {
	t.Parallel()
	r := source(1)
	for range 80 {
		holds(t, double, someFloat(r, double))
		holds(t, single, someFloat(r, single))
		f := someForm(r)
		holds(t, f, someFloat(r, f))
	}
}

// A nought has its float's sign, whatever the mode.
func TestP181Noughts(t *testing.T) {
	for _, f := range allForms() {
		for _, mode := range everyMode {
			digitsAre(t, f, 0, mode, dc("", 0))
			digitsAre(t, f, minus(f), mode, dc("-", 0))
		}
	}
}

// Floats that lie in the middle of two decimals of as many digits, which both round to them: the even one is taken.
func TestP181TwoAsNear(t *testing.T) {
	for _, c := range []struct {
		f    api.Form
		at   string
		want api.Dec
	}{
		{form(2, 2), "1/4", dc("2", -1)},
		{form(9, 1), "3/4", dc("8", -1)},
		{form(9, 2), "3/4", dc("8", -1)},
		{form(9, 1), "1/8", dc("12", -2)},
		{form(8, 4), "3/8", dc("38", -2)},
		{form(8, 4), "5/8", dc("62", -2)},
		{form(8, 4), "7/8", dc("88", -2)},
		{form(9, 2), "5/4", dc("12", -1)},
		{form(9, 3), "9/4", dc("22", -1)},
		{form(9, 3), "15/4", dc("38", -1)},
		{form(8, 4), "31/4", dc("78", -1)},
		{form(8, 3), "1/16", dc("62", -3)},
	} {
		float, flags, e := round.Ratio(c.f, fraction(rat(c.at)), false, api.Even)
		if flags != 0 || e != api.OK {
			t.Fatalf("%s is no float of %v", c.at, c.f)
		}
		for _, mode := range []uint8{api.Even, api.Away} {
			digitsAre(t, c.f, float, mode, c.want)
			digitsAre(t, c.f, float+minus(c.f), mode, turned(c.want))
		}
	}
}

func TestP181WrittenOut(t *testing.T) {
	for _, c := range []struct {
		v    float64
		want api.Dec
	}{
		{1, dc("1", 0)},
		{-1, dc("-1", 0)},
		{1e22, dc("1", 22)},
		{1200, dc("12", 2)},
		{123456789, dc("123456789", 0)},
		{0.3, dc("3", -1)},
		{math.Nextafter(0.3, 1), dc("30000000000000004", -17)},
		{1.0 / 3, dc("3333333333333333", -16)},
		{2.0 / 3, dc("6666666666666666", -16)},
		{math.Pi, dc("3141592653589793", -15)},
		{9007199254740993, dc("9007199254740992", 0)},
		{5e-324, dc("5", -324)},
		{1e-323, dc("1", -323)},
		{2.2250738585072011e-308, dc("2225073858507201", -323)},
		{2.2250738585072014e-308, dc("22250738585072014", -324)},
		{math.MaxFloat64, dc("17976931348623157", 292)},
	} {
		digitsAre(t, double, math.Float64bits(c.v), api.Even, c.want)
	}
}
