package soft

import (
	"math/big"
	"testing"

	"numeral/api"
)

// Products, quotients and roots that lie as near to a half between two floats as may be: one behind twice as many bits as a float has. Floats from 1 on, below 4, are told here by how many last places they have, where 2^Frac of them are 1.

// placesOf is the float that is worth n times 2 to the power of exp - Frac, if n has the bits of a normal float.
func placesOf(f api.Form, n *big.Int, exp int) (uint64, bool) {
	e := bias(f) + exp
	if n.BitLen() != f.Frac+1 || e < 1 || e > 1<<f.Exp-2 {
		return 0, false
	}
	return uint64(e)<<f.Frac + n.Uint64() - normal(f), true
}

func powerOfTwo(n int) *big.Int { return new(big.Int).Lsh(big.NewInt(1), uint(n)) }

// besideAHalf is what is owed, by every mode, of a number just above (or below) the half between low and the next float.
func besideAHalf(low uint64, above bool) [5]told {
	nearer := low
	if above {
		nearer = low + 1
	}
	return [5]told{{nearer, inexact, 0}, {nearer, inexact, 0}, {low, inexact, 0}, {low + 1, inexact, 0}, {low, inexact, 0}}
}

// inverse is what comes to r with an odd number, in all bits below the bit number n.
func inverse(odd, r *big.Int, n int) *big.Int {
	m := powerOfTwo(n)
	x := new(big.Int).ModInverse(odd, m)
	return x.Mod(x.Mul(x, r), m)
}

// oddPlaces is an odd number of last places, that of a float from 1 on, below 2.
func oddPlaces(f api.Form, seed uint64) *big.Int {
	return new(big.Int).SetUint64(normal(f) + source(seed).Uint64N(normal(f)) | 1)
}

func TestP73AsNearToAHalfAsMayBe(t *testing.T) {
	seen := 0
	for _, f := range allForms() {
		for seed := range uint64(12) {
			for _, side := range []int64{1, -1} {
				// a times b is half of a last place, and side, in the bits below the last place.
				a := oddPlaces(f, seed)
				b := inverse(a, new(big.Int).Add(powerOfTwo(f.Frac-1), big.NewInt(side)), f.Frac)
				b.Add(b, powerOfTwo(f.Frac))
				product := new(big.Int).Mul(a, b)
				low, fits := placesOf(f, new(big.Int).Rsh(product, uint(f.Frac)), 0)
				x, _ := placesOf(f, a, 0)
				y, _ := placesOf(f, b, 0)
				if !fits || f.Frac < 3 {
					continue
				}
				seen++
				for mode, want := range besideAHalf(low, side > 0) {
					wants(t, tell(Mul(f, x, y, uint8(mode))), want, "Mul", f, uint8(mode), x, y)
				}
			}
		}
	}
	if seen < 1000 {
		t.Error("only so many products:", seen)
	}
}

func TestP74AsNearToAHalfAsMayBe(t *testing.T) {
	seen := 0
	for _, f := range allForms() {
		for seed := range uint64(12) {
			for _, side := range []int64{1, -1} {
				// Twice the quotient's places, an odd number, times b's is a number of a's, less side.
				b := oddPlaces(f, seed)
				twice := inverse(b, big.NewInt(-side), f.Frac+1)
				twice.Add(twice, powerOfTwo(f.Frac+1))
				a := new(big.Int).Mul(twice, b)
				a.Add(a, big.NewInt(side)).Rsh(a, uint(f.Frac+1))
				low, _ := placesOf(f, new(big.Int).Rsh(twice, 1), 0)
				x, fits := placesOf(f, a, 0)
				y, _ := placesOf(f, b, 0)
				if !fits || f.Frac < 3 {
					continue
				}
				seen++
				for mode, want := range besideAHalf(low, side > 0) {
					wants(t, tell(Div(f, x, y, uint8(mode))), want, "Div", f, uint8(mode), x, y)
				}
			}
		}
	}
	if seen < 1000 {
		t.Error("only so many quotients:", seen)
	}
}

// rootOfMinusSeven is an odd number whose square is -7 in all bits below the bit number n: bit by bit.
func rootOfMinusSeven(n int) *big.Int {
	s := big.NewInt(1)
	for bit := 3; bit < n; bit++ {
		rest := new(big.Int).Mul(s, s)
		rest.Add(rest, big.NewInt(7))
		if rest.Bit(bit) == 1 {
			s.Add(s, powerOfTwo(bit-1))
		}
	}
	return s
}

// The square of n + 1/2 last places is n times n + 1, and a quarter. Where n times n + 1, and 2, is a number of the places of some float, that float's root is above the half by less than a last place of the square; where n times n + 1 is one, below it.
func TestP75AsNearToAHalfAsMayBe(t *testing.T) {
	seen := 0
	for _, f := range allForms() {
		for exp := range 2 {
			// Floats from 2 on have places twice as great.
			long := f.Frac + exp
			root := rootOfMinusSeven(long + 2)
			k := new(big.Int).Rsh(root, 1)
			for _, c := range []struct {
				n    *big.Int
				more int64
			}{
				{k, 2}, {new(big.Int).Not(k), 2}, {new(big.Int), 0}, {big.NewInt(-1), 0},
			} {
				n := new(big.Int).Mod(c.n, powerOfTwo(long))
				if n.BitLen() <= f.Frac {
					n.Add(n, powerOfTwo(f.Frac))
				}
				square := new(big.Int).Mul(n, new(big.Int).Add(n, big.NewInt(1)))
				square.Add(square, big.NewInt(c.more))
				x, fits := placesOf(f, new(big.Int).Rsh(square, uint(long)), exp)
				low, is := placesOf(f, n, 0)
				if !fits || !is || square.TrailingZeroBits() < uint(long) || f.Frac < 3 {
					continue
				}
				seen++
				for mode, want := range besideAHalf(low, c.more > 0) {
					wants(t, tell(Sqrt(f, x, uint8(mode))), want, "Sqrt", f, uint8(mode), x)
				}
				checkOne(t, "Sqrt", Sqrt, wantRoot, f, x)
			}
		}
	}
	if seen < 1000 {
		t.Error("only so many roots:", seen)
	}
}
