package round

import (
	"math"
	"math/big"
	"slices"
	"strconv"
	"testing"

	"numeral/api"
)

// The floats of the form {2, 1}, written out.
func TestP51AllAboutTinyFloats(t *testing.T) {
	tiny := form(2, 1)
	floats := []*big.Rat{frac(0, 1), frac(1, 2), frac(1, 1), frac(3, 2), frac(2, 1), frac(3, 1), frac(4, 1)}
	for bits, x := range floats {
		if worthOf(tiny, uint64(bits)).Cmp(x) != 0 {
			t.Fatal("the tests' own floats are wrong at", bits)
		}
	}
	for _, c := range []struct {
		x    *big.Rat
		want [5]told
	}{
		{frac(1, 100), [5]told{{0, 5, 0}, {0, 5, 0}, {0, 5, 0}, {1, 5, 0}, {0, 5, 0}}},
		{frac(1, 4), [5]told{{0, 5, 0}, {1, 5, 0}, {0, 5, 0}, {1, 5, 0}, {0, 5, 0}}},
		{frac(26, 100), [5]told{{1, 5, 0}, {1, 5, 0}, {0, 5, 0}, {1, 5, 0}, {0, 5, 0}}},
		{frac(3, 4), [5]told{{2, 5, 0}, {2, 5, 0}, {1, 5, 0}, {2, 5, 0}, {1, 5, 0}}},
		{frac(7, 8), [5]told{{2, 1, 0}, {2, 1, 0}, {1, 5, 0}, {2, 1, 0}, {1, 5, 0}}},
		{frac(5, 4), [5]told{{2, 1, 0}, {3, 1, 0}, {2, 1, 0}, {3, 1, 0}, {2, 1, 0}}},
		{frac(7, 4), [5]told{{4, 1, 0}, {4, 1, 0}, {3, 1, 0}, {4, 1, 0}, {3, 1, 0}}},
		{frac(5, 2), [5]told{{4, 1, 0}, {5, 1, 0}, {4, 1, 0}, {5, 1, 0}, {4, 1, 0}}},
		{frac(3, 1), [5]told{{5, 0, 0}, {5, 0, 0}, {5, 0, 0}, {5, 0, 0}, {5, 0, 0}}},
		{frac(13, 4), [5]told{{5, 1, 0}, {5, 1, 0}, {5, 1, 0}, {6, 3, 0}, {5, 1, 0}}},
		{frac(7, 2), [5]told{{6, 3, 0}, {6, 3, 0}, {5, 1, 0}, {6, 3, 0}, {5, 1, 0}}},
		{frac(4, 1), [5]told{{6, 3, 0}, {6, 3, 0}, {5, 3, 0}, {6, 3, 0}, {5, 3, 0}}},
		{frac(100, 1), [5]told{{6, 3, 0}, {6, 3, 0}, {5, 3, 0}, {6, 3, 0}, {5, 3, 0}}},
		{frac(-13, 4), [5]told{{13, 1, 0}, {13, 1, 0}, {13, 1, 0}, {13, 1, 0}, {14, 3, 0}}},
		{frac(-4, 1), [5]told{{14, 3, 0}, {14, 3, 0}, {13, 3, 0}, {13, 3, 0}, {14, 3, 0}}},
		{frac(-1, 4), [5]told{{8, 5, 0}, {9, 5, 0}, {8, 5, 0}, {8, 5, 0}, {9, 5, 0}}},
		{frac(-1, 100), [5]told{{8, 5, 0}, {8, 5, 0}, {8, 5, 0}, {8, 5, 0}, {9, 5, 0}}},
		{frac(-7, 8), [5]told{{10, 1, 0}, {10, 1, 0}, {9, 5, 0}, {9, 5, 0}, {10, 1, 0}}},
	} {
		for mode, want := range c.want {
			if got := tell(Ratio(tiny, asRatio(c.x), false, uint8(mode))); got != want {
				t.Errorf("%s, mode %d: %v, want %v", c.x, mode, got, want)
			}
		}
		check(t, tiny, c.x)
	}
}

// Of small forms all floats, all halves between two, and a little off both on either side.
func TestP51AllAboutSmallForms(t *testing.T) {
	off := frac(1, 1000003)
	for _, f := range smallForms() {
		for bits := range infinite(f) + 3 {
			x := worthOf(f, bits)
			y := worthOf(f, bits+1)
			middle := times(plus(x, y), frac(1, 2))
			quarter := times(plus(x, middle), frac(1, 2))
			for _, z := range []*big.Rat{x, middle, quarter, plus(x, off), less(y, off), plus(middle, off), less(middle, off)} {
				if z.Sign() != 0 {
					check(t, f, z)
					check(t, f, turned(z))
				}
			}
		}
	}
}

// edges are the numbers of a form about which something changes: rests of one half, carries into the exponent, out of the subnormals and beyond the greatest float, the ends of the underflow.
func edges(f api.Form) []*big.Rat {
	unit := func(bits uint64) *big.Rat { return less(worthOf(f, bits+1), worthOf(f, bits)) }
	var all []*big.Rat
	normal := uint64(1) << f.Frac
	for _, bits := range []uint64{0, 1, 2, normal - 2, normal - 1, normal, normal + 1, 2*normal - 1, infinite(f)/2 + 1, infinite(f) - 1} {
		x, step := worthOf(f, bits), unit(bits)
		for _, part := range []*big.Rat{frac(0, 1), frac(1, 4), frac(1, 2), frac(3, 4), less(frac(1, 2), twoTo(-70)), plus(frac(1, 2), twoTo(-70)), twoTo(-70), frac(1, 3), frac(2, 3)} {
			all = append(all, plus(x, times(step, part)))
		}
	}
	// The half of the half step of the greatest subnormal is where rounding with no lower end carries to the least normal float.
	carry := less(worthOf(f, normal), times(unit(0), frac(1, 4)))
	tiny := times(unit(0), twoTo(-80))
	all = slices.DeleteFunc(all, func(x *big.Rat) bool { return x.Sign() == 0 })
	return append(all, carry, less(carry, tiny), plus(carry, tiny), worthOf(f, infinite(f)), twoTo(bias(f)+9), twoTo(leastExp(f)-2), twoTo(leastExp(f)-90))
}

func TestP51EdgesOfAllForms(t *testing.T) {
	for exp := 2; exp <= 11; exp++ {
		t.Run("Exp "+strconv.Itoa(exp), func(t *testing.T) {
			t.Parallel()
			for frac := 1; frac <= 52; frac++ {
				if frac > 2 && frac < 51 && frac%10 != exp-1 {
					continue
				}
				for _, x := range edges(form(exp, frac)) {
					check(t, form(exp, frac), x)
					check(t, form(exp, frac), turned(x))
				}
			}
		})
	}
}

func TestP51SomeOfAnyForm(t *testing.T) {
	r := source(1)
	for range 2000 {
		f := form(2+r.IntN(10), 1+r.IntN(52))
		span := bias(f) - leastExp(f) + 8
		check(t, f, some(r, leastExp(f)-4+r.IntN(span)))
	}
}

// To the nearest, Go's library says the same of its own floats.
func TestP51AsTheLibraryRounds(t *testing.T) {
	r := source(2)
	for range 3000 {
		x := some(r, r.IntN(2300)-1150)
		want, _ := x.Float64()
		got, flags, e := Ratio(form(11, 52), asRatio(x), false, api.Even)
		if e != api.OK || got != math.Float64bits(want) || flags&inexact == 0 != isWorth(want, x) {
			t.Errorf("%s as a double: %#x, flags %d, error %d; want %#x", short(x), got, flags, int(e), math.Float64bits(want))
		}
		x = some(r, r.IntN(340)-170)
		narrow, _ := x.Float32()
		got, flags, e = Ratio(form(8, 23), asRatio(x), false, api.Even)
		if e != api.OK || got != uint64(math.Float32bits(narrow)) || flags&inexact == 0 != isWorth(float64(narrow), x) {
			t.Errorf("%s as a single: %#x, flags %d, error %d; want %#x", short(x), got, flags, int(e), math.Float32bits(narrow))
		}
	}
}

// isWorth is asked here, as the library calls a fraction that it rounds to nought exact.
func isWorth(float float64, x *big.Rat) bool {
	worth := new(big.Rat).SetFloat64(float)
	return worth != nil && worth.Cmp(x) == 0
}

// Among the normal floats the library has all five modes.
func TestP51AsTheLibraryRoundsByModes(t *testing.T) {
	r := source(3)
	ways := []big.RoundingMode{api.Even: big.ToNearestEven, api.Away: big.ToNearestAway, api.Zero: big.ToZero, api.Up: big.ToPositiveInf, api.Down: big.ToNegativeInf}
	for range 1000 {
		x := some(r, r.IntN(2000)-1000)
		for mode, way := range ways {
			want, _ := new(big.Float).SetPrec(53).SetMode(way).SetRat(x).Float64()
			if got, _, e := Ratio(form(11, 52), asRatio(x), false, uint8(mode)); e != api.OK || got != math.Float64bits(want) {
				t.Errorf("%s by mode %d: %#x, error %d; want %#x", short(x), mode, got, int(e), math.Float64bits(want))
			}
		}
	}
}

func TestP51Nought(t *testing.T) {
	for _, f := range []api.Form{form(2, 1), form(5, 10), form(8, 23), form(11, 52)} {
		for _, mode := range everyMode {
			for neg, want := range map[bool]uint64{false: 0, true: signBit(f)} {
				nothing := asRatio(new(big.Rat))
				if got := tell(Ratio(f, nothing, neg, mode)); got != (told{bits: want}) {
					t.Errorf("Ratio(%v, 0, %v, %d): %v", f, neg, mode, got)
				}
				if got := tell(Dyadic(f, api.Dyadic{}, neg, mode)); got != (told{bits: want}) {
					t.Errorf("Dyadic(%v, 0, %v, %d): %v", f, neg, mode, got)
				}
				for _, n := range []int{0, 1, -1, 400, -400, 1 << 60, -1 << 60, math.MaxInt, math.MinInt} {
					if got := tell(Scaled(f, nothing, n, neg, mode)); got != (told{bits: want}) {
						t.Errorf("Scaled(%v, 0, %d, %v, %d): %v", f, n, neg, mode, got)
					}
				}
			}
		}
	}
}
