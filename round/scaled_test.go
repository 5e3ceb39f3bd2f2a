package round

import (
	"math"
	"math/big"
	"strconv"
	"testing"

	"numeral/api"
	"numeral/nat"
	"numeral/ratio"
)

// tenTo is for exponents of either sign.
func tenTo(n int) *big.Rat {
	p := new(big.Int).Exp(big.NewInt(10), big.NewInt(int64(max(n, -n))), nil)
	if n < 0 {
		return new(big.Rat).SetFrac(big.NewInt(1), p)
	}
	return new(big.Rat).SetInt(p)
}

// checkScaled rounds by every mode and wants what is owed.
func checkScaled(t *testing.T, f api.Form, x *big.Rat, n int) {
	t.Helper()
	r, whole := asRatio(x), times(x, tenTo(n))
	for _, mode := range everyMode {
		bits, flags := want(f, whole, mode)
		for _, neg := range []bool{false, true} {
			if got := tell(Scaled(f, r, n, neg, mode)); got != (told{bits, flags, api.OK}) {
				t.Errorf("Scaled(%v, %s, %d, %v, mode %d): %v; want %#x, flags %d", f, short(x), n, neg, mode, got, bits, flags)
			}
		}
	}
}

// All powers of ten about a form's floats, on either side.
func TestP53PowersOfTen(t *testing.T) {
	for _, f := range []api.Form{form(2, 1), form(5, 10), form(8, 23)} {
		most := (bias(f) - leastExp(f)) / 3
		for n := -most; n <= most; n++ {
			checkScaled(t, f, frac(1, 1), n)
			checkScaled(t, f, frac(-7, 9), n)
		}
	}
	for n := -345; n <= 330; n += 3 {
		checkScaled(t, form(11, 52), frac(1, 1), n)
	}
}

func TestP53SomeOfAnyForm(t *testing.T) {
	r := source(6)
	for range 2000 {
		f := form(2+r.IntN(10), 1+r.IntN(52))
		n := r.IntN(700) - 350
		size := leastExp(f) - 4 + r.IntN(bias(f)-leastExp(f)+8)
		checkScaled(t, f, some(r, size-n*3322/1000), n)
	}
}

// Texts of numbers, as Go's library reads them.
func TestP53AsTheLibraryReads(t *testing.T) {
	r := source(7)
	for range 5000 {
		digits, n := r.Uint64()>>r.IntN(64), r.IntN(680)-350
		text := strconv.FormatUint(digits, 10) + "e" + strconv.Itoa(n)
		want, err := strconv.ParseFloat(text, 64)
		got := tell(Scaled(form(11, 52), asRatio(new(big.Rat).SetInt(new(big.Int).SetUint64(digits))), n, false, api.Even))
		if got.e != api.OK || got.bits != math.Float64bits(want) || got.flags&api.FlagOverflow != 0 != (err != nil) {
			t.Errorf("%s: %v; want %#x", text, got, math.Float64bits(want))
		}
	}
}

// Halves between two floats, told with a power of ten, and numbers a little off them.
func TestP53Halves(t *testing.T) {
	double := form(11, 52)
	for _, bits := range []uint64{0, 1, 1<<52 - 1, 1 << 52, 0x3fefffffffffffff, 0x3ff0000000000000, 0x3ff0000000000001, 0x44b52d02c7e14af6, 0x7feffffffffffffe, 0x7fefffffffffffff} {
		half := times(plus(worthOf(double, bits), worthOf(double, bits+1)), frac(1, 2))
		for _, n := range []int{-1, 1, 23, -23, 300, -300, 1000, -1000} {
			x := times(half, tenTo(-n))
			checkScaled(t, double, x, n)
			checkScaled(t, double, times(x, plus(frac(1, 1), twoTo(-5000))), n)
			checkScaled(t, double, times(x, less(frac(1, 1), twoTo(-5000))), n)
		}
	}
}

// Whole numbers over a power of ten, so near to a float, or to a half between two, that their first bits are its own: the rest of the last quotient alone tells them apart.
func TestP53NearlyHalves(t *testing.T) {
	double := form(11, 52)
	for _, worth := range []*big.Rat{frac(1, 1), frac(1<<53, 1), frac(1<<53+1, 1), frac(1<<53+3, 1), frac(1<<54-1, 1)} {
		for _, n := range []int{20, 40, 300, 1500, 9000} {
			x := times(worth, tenTo(n))
			checkScaled(t, double, x, -n)
			checkScaled(t, double, plus(x, frac(1, 1)), -n)
			checkScaled(t, double, less(x, frac(1, 1)), -n)
		}
	}
}

// A power of ten far beyond all ends at once, whatever it multiplies.
func TestP53FarPowers(t *testing.T) {
	long := longFraction(t, maxBits-60, true)
	turnedLong := api.Ratio{Num: long.Den, Den: long.Num}
	for _, r := range []api.Ratio{asRatio(frac(1, 1)), asRatio(frac(355, 113)), long, turnedLong, {Num: long.Num, Den: nat.Of(1)}, {Num: nat.Of(1), Den: long.Num}} {
		for _, neg := range []bool{false, true} {
			r.Neg = neg
			for _, f := range []api.Form{form(2, 1), form(11, 52)} {
				for _, n := range []int{math.MaxInt, 1 << 60, 1 << 31, 1 << 20, 200000} {
					for mode, want := range beyond(f, neg) {
						if got := tell(Scaled(f, r, n, !neg, uint8(mode))); got != want {
							t.Errorf("%v, 10^%d, mode %d: %v, want %v", f, n, mode, got, want)
						}
					}
				}
				for _, n := range []int{math.MinInt, math.MinInt + 1, -1 << 60, -1 << 31, -1 << 20, -200000} {
					for mode, want := range nearNought(f, neg) {
						if got := tell(Scaled(f, r, n, !neg, uint8(mode))); got != want {
							t.Errorf("%v, 10^%d, mode %d: %v, want %v", f, n, mode, got, want)
						}
					}
				}
			}
		}
	}
}

// About the size where the power is no longer worked out: beyond all floats on both sides of it.
func TestP53ReachOfPowers(t *testing.T) {
	for _, f := range []api.Form{form(2, 1), form(11, 52)} {
		for n := 1225; n <= 1240; n++ {
			for mode, want := range beyond(f, false) {
				if got := tell(Scaled(f, asRatio(frac(1, 1)), n, false, uint8(mode))); got != want {
					t.Errorf("%v, 10^%d, mode %d: %v, want %v", f, n, mode, got, want)
				}
			}
			for mode, want := range nearNought(f, false) {
				if got := tell(Scaled(f, asRatio(frac(1, 1)), -n, false, uint8(mode))); got != want {
					t.Errorf("%v, 10^-%d, mode %d: %v, want %v", f, n, mode, got, want)
				}
			}
		}
	}
}

// longFraction is a half between 1 and the next double, and a little more, or a little less; both of its numbers have about so many bits, and its lower one is no power of two.
func longFraction(t *testing.T, bits int, oneMore bool) api.Ratio {
	t.Helper()
	den, e := nat.Up(nat.Of(3<<53), bits-55)
	if e != api.OK {
		t.Fatal(int(e))
	}
	return api.Ratio{Num: lengthened(t, 3<<53+3, bits-55, oneMore), Den: den}
}

// Ratio has no room left for the products of the longest fractions, and neither has r times the power of ten: all are rounded just as short ones are.
func TestP53LongFractions(t *testing.T) {
	double := form(11, 52)
	const one, next = 0x3ff0000000000000, 0x3ff0000000000001
	wants := map[bool][5]told{
		true:  {{next, 1, 0}, {next, 1, 0}, {one, 1, 0}, {next, 1, 0}, {one, 1, 0}},
		false: {{one, 1, 0}, {one, 1, 0}, {one, 1, 0}, {next, 1, 0}, {one, 1, 0}},
	}
	for _, n := range []int{0, 1, -1, 300, -300, 2 * reach, -2 * reach, 2*reach + 1, -2*reach - 1} {
		t.Run("10^"+strconv.Itoa(n), func(t *testing.T) {
			t.Parallel()
			// What the power of ten adds to one of the two numbers is left free.
			bits := maxBits - max(n, -n)*3322/1000 - 2
			for oneMore, want := range wants {
				x, e := ratio.Scale(longFraction(t, bits, oneMore), 10, -n)
				if e != api.OK {
					t.Fatal(int(e))
				}
				for _, mode := range []uint8{api.Even, api.Down} {
					if got := tell(Scaled(double, x, n, false, mode)); got != want[mode] {
						t.Errorf("one more %v, mode %d: %v, want %v", oneMore, mode, got, want[mode])
					}
				}
			}
		})
	}
}

// The longest fractions that there are, times powers that they leave no room for.
func TestP53LongestFractions(t *testing.T) {
	b := longest()
	a, _, _ := nat.Sub(b, nat.Of(1))
	for _, f := range []api.Form{form(5, 10), form(11, 52)} {
		for _, n := range []int{0, 1, -1, 4, -4, 100, -100, 307, -307, 1300, -1300} {
			ten := tenTo(n)
			for _, c := range []struct {
				r api.Ratio
				x *big.Rat // what rounds as r times the power does
			}{
				{api.Ratio{Num: a, Den: b}, times(ten, less(frac(1, 1), twoTo(-6000)))},
				{api.Ratio{Num: b, Den: a}, times(ten, plus(frac(1, 1), twoTo(-6000)))},
			} {
				for _, mode := range everyMode {
					bits, flags := want(f, c.x, mode)
					if got := tell(Scaled(f, c.r, n, false, mode)); got != (told{bits, flags, api.OK}) {
						t.Errorf("%v, 10^%d, mode %d: %v, want %#x, flags %d", f, n, mode, got, bits, flags)
					}
				}
			}
		}
	}
}

// A fraction with one long number, which the power of ten takes away again, to the last bit.
func TestP53LongPowersTakenAway(t *testing.T) {
	double := form(11, 52)
	for _, n := range []int{9000, 157824} {
		ten, e := nat.Pow(10, n)
		if e != api.OK {
			t.Fatal(int(e))
		}
		for _, more := range []int{0, 1, 20} {
			t.Run("10^"+strconv.Itoa(n+more), func(t *testing.T) {
				t.Parallel()
				for _, mode := range []uint8{api.Even, api.Up} {
					bits, flags := want(double, times(frac(3, 1), tenTo(more)), mode)
					if got := tell(Scaled(double, api.Ratio{Num: nat.Of(3), Den: ten}, n+more, false, mode)); got != (told{bits, flags, api.OK}) {
						t.Errorf("3 over the power, mode %d: %v, want %#x, flags %d", mode, got, bits, flags)
					}
					bits, flags = want(double, times(frac(1, 3), tenTo(-more)), mode)
					if got := tell(Scaled(double, api.Ratio{Num: ten, Den: nat.Of(3)}, -n-more, false, mode)); got != (told{bits, flags, api.OK}) {
						t.Errorf("the power over 3, mode %d: %v, want %#x, flags %d", mode, got, bits, flags)
					}
				}
			})
		}
	}
}
