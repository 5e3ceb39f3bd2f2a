package round

import (
	"math/big"
	"testing"

	"numeral/api"
	"numeral/exact"
	"numeral/nat"
	"numeral/steps"
)

func dyadicOf(neg bool, n uint64, exp int) api.Dyadic {
	return api.Dyadic{Neg: neg, Mant: nat.Of(n), Exp: exp}
}

// checkDyadic rounds by every mode and wants what is owed.
func checkDyadic(t *testing.T, f api.Form, x *big.Rat) {
	t.Helper()
	for _, mode := range everyMode {
		bits, flags := want(f, x, mode)
		for _, neg := range []bool{false, true} {
			if got := tell(Dyadic(f, asDyadic(x), neg, mode)); got != (told{bits, flags, api.OK}) {
				t.Errorf("Dyadic(%v, %s, %v, mode %d): %v; want %#x, flags %d", f, short(x), neg, mode, got, bits, flags)
			}
		}
	}
}

func TestP52DyadicsAboutSmallForms(t *testing.T) {
	for _, f := range smallForms() {
		for bits := range infinite(f) + 2 {
			x, y := worthOf(f, bits), worthOf(f, bits+1)
			middle := times(plus(x, y), frac(1, 2))
			for _, z := range []*big.Rat{y, middle, times(plus(x, middle), frac(1, 2)), times(plus(y, middle), frac(1, 2)), plus(middle, twoTo(-200)), less(middle, twoTo(-200))} {
				checkDyadic(t, f, z)
				checkDyadic(t, f, turned(z))
			}
		}
	}
}

func TestP52SomeOfAnyForm(t *testing.T) {
	r := source(4)
	for range 2000 {
		f := form(2+r.IntN(10), 1+r.IntN(52))
		span := bias(f) - leastExp(f) + 8
		n := new(big.Int).SetUint64(r.Uint64()>>r.IntN(64) | 1)
		if r.IntN(3) == 0 {
			n.Mul(n, n)
		}
		x := times(new(big.Rat).SetInt(n), twoTo(leastExp(f)-4+r.IntN(span)-n.BitLen()))
		checkDyadic(t, f, x)
		checkDyadic(t, f, turned(x))
	}
}

// beyond is what every mode answers of a number beyond all floats of a form; nearNought, of one nearer to nought than all.
func beyond(f api.Form, neg bool) [5]told {
	sign, inf := signBit(f), infinite(f)
	if neg {
		return [5]told{{sign + inf, overflow, 0}, {sign + inf, overflow, 0}, {sign + inf - 1, overflow, 0}, {sign + inf - 1, overflow, 0}, {sign + inf, overflow, 0}}
	}
	return [5]told{{inf, overflow, 0}, {inf, overflow, 0}, {inf - 1, overflow, 0}, {inf, overflow, 0}, {inf - 1, overflow, 0}}
}

func nearNought(f api.Form, neg bool) [5]told {
	sign := signBit(f)
	if neg {
		return [5]told{{sign, underflow, 0}, {sign, underflow, 0}, {sign, underflow, 0}, {sign, underflow, 0}, {sign + 1, underflow, 0}}
	}
	return [5]told{{0, underflow, 0}, {0, underflow, 0}, {0, underflow, 0}, {1, underflow, 0}, {0, underflow, 0}}
}

func outerForms() []api.Form {
	return []api.Form{form(2, 1), form(2, 52), form(5, 10), form(11, 1), form(11, 52)}
}

func TestP52FarExponents(t *testing.T) {
	for _, f := range outerForms() {
		for _, neg := range []bool{false, true} {
			for _, n := range []uint64{1, 3, 1<<53 + 1, 1<<64 - 1} {
				for mode, want := range beyond(f, neg) {
					for _, exp := range []int{api.MaxExp, api.MaxExp - 1, 1 << 20, 5000} {
						if got := tell(Dyadic(f, dyadicOf(neg, n, exp), false, uint8(mode))); got != want {
							t.Errorf("%v, %d x 2^%d, mode %d: %v", f, n, exp, mode, got)
						}
					}
				}
				for mode, want := range nearNought(f, neg) {
					for _, exp := range []int{-api.MaxExp, -api.MaxExp + 1, -1 << 20, -5000} {
						if got := tell(Dyadic(f, dyadicOf(neg, n, exp), false, uint8(mode))); got != want {
							t.Errorf("%v, %d x 2^%d, mode %d: %v", f, n, exp, mode, got)
						}
					}
				}
			}
		}
	}
}

// lengthened is a number whose lower half is a single bit at the end: x times 2 to the power of n, and one more, or one less.
func lengthened(t *testing.T, x uint64, n int, oneMore bool) api.Nat {
	t.Helper()
	var w steps.Run
	long := w.Nat(nat.Up(nat.Of(x), n))
	if oneMore {
		long = w.Nat(nat.Add(long, nat.Of(1)))
	} else {
		long = w.Less(nat.Sub(long, nat.Of(1)))
	}
	if w.Err != api.OK {
		t.Fatal("a long number can't be made:", int(w.Err))
	}
	return long
}

// Numbers of MaxLimbs limbs, just above and just below a half between two floats, a float, and the ends.
func TestP52LongNumbers(t *testing.T) {
	double := form(11, 52)
	const one, next, last = 0x3ff0000000000000, 0x3ff0000000000001, 0x3fefffffffffffff
	for _, c := range []struct {
		what    string
		x       uint64 // the number's first bits
		two     int    // the number is about x times 2 to the power of two
		oneMore bool
		want    [5]told
	}{
		{"above a half", 1<<53 + 1, -53, true, [5]told{{next, 1, 0}, {next, 1, 0}, {one, 1, 0}, {next, 1, 0}, {one, 1, 0}}},
		{"below a half", 1<<53 + 1, -53, false, [5]told{{one, 1, 0}, {one, 1, 0}, {one, 1, 0}, {next, 1, 0}, {one, 1, 0}}},
		{"above 1", 1, 0, true, [5]told{{one, 1, 0}, {one, 1, 0}, {one, 1, 0}, {next, 1, 0}, {one, 1, 0}}},
		{"below 1", 1, 0, false, [5]told{{one, 1, 0}, {one, 1, 0}, {last, 1, 0}, {one, 1, 0}, {last, 1, 0}}},
		{"above half of the least", 1, -1075, true, [5]told{{1, 5, 0}, {1, 5, 0}, {0, 5, 0}, {1, 5, 0}, {0, 5, 0}}},
		{"below half of the least", 1, -1075, false, [5]told{{0, 5, 0}, {0, 5, 0}, {0, 5, 0}, {1, 5, 0}, {0, 5, 0}}},
		{"below the first overflow", 1<<54 - 1, 970, false, [5]told{{0x7fefffffffffffff, 1, 0}, {0x7fefffffffffffff, 1, 0}, {0x7fefffffffffffff, 1, 0}, {0x7ff0000000000000, 3, 0}, {0x7fefffffffffffff, 1, 0}}},
		{"above the first overflow", 1<<54 - 1, 970, true, [5]told{{0x7ff0000000000000, 3, 0}, {0x7ff0000000000000, 3, 0}, {0x7fefffffffffffff, 1, 0}, {0x7ff0000000000000, 3, 0}, {0x7fefffffffffffff, 1, 0}}},
		{"below the least normal float", 1, -1022, false, [5]told{{1 << 52, 1, 0}, {1 << 52, 1, 0}, {1<<52 - 1, 5, 0}, {1 << 52, 1, 0}, {1<<52 - 1, 5, 0}}},
	} {
		room := maxBits - 54
		d := api.Dyadic{Mant: lengthened(t, c.x, room, c.oneMore), Exp: c.two - room}
		for mode, want := range c.want {
			if got := tell(Dyadic(double, d, true, uint8(mode))); got != want {
				t.Errorf("%s, mode %d: %v, want %v", c.what, mode, got, want)
			}
		}
	}
}

func TestP52LongestNumbers(t *testing.T) {
	f := form(5, 10)
	longest := api.Dyadic{Mant: longest()}
	for mode, want := range beyond(f, false) {
		for _, exp := range []int{0, api.MaxExp, -1000} {
			longest.Exp = exp
			if got := tell(Dyadic(f, longest, false, uint8(mode))); got != want {
				t.Errorf("the longest x 2^%d, mode %d: %v", exp, mode, got)
			}
		}
	}
	for mode, want := range nearNought(f, false) {
		for _, exp := range []int{-api.MaxExp, -maxBits - 30} {
			longest.Exp = exp
			if got := tell(Dyadic(f, longest, false, uint8(mode))); got != want {
				t.Errorf("the longest x 2^%d, mode %d: %v", exp, mode, got)
			}
		}
	}
}

// What Ratio would answer of the same number.
func TestP52AsRatio(t *testing.T) {
	r := source(5)
	for range 500 {
		d := dyadicOf(r.IntN(2) == 0, r.Uint64()|1, r.IntN(2400)-1200)
		x, e := exact.Ratio(d)
		if e != api.OK {
			t.Fatal(int(e))
		}
		for _, f := range outerForms() {
			for _, mode := range everyMode {
				if got, want := tell(Dyadic(f, d, false, mode)), tell(Ratio(f, x, false, mode)); got != want {
					t.Errorf("%v, %v by mode %d: %v as a dyadic, %v as a fraction", f, d, mode, got, want)
				}
			}
		}
	}
}
