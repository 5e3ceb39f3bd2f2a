package round

import (
	"math"
	"math/big"
	"math/rand/v2"
	"slices"
	"testing"

	"numeral/api"
	"numeral/nat"
	"numeral/ratio"
)

const (
	inexact   = api.FlagInexact
	overflow  = api.FlagInexact | api.FlagOverflow
	underflow = api.FlagInexact | api.FlagUnderflow

	maxBits = api.MaxLimbs * 32
)

// everyMode is all modes that may be, in the order of their numbers.
var everyMode = []uint8{api.Even, api.Away, api.Zero, api.Up, api.Down}

func form(exp, frac int) api.Form { return api.Form{Exp: exp, Frac: frac} }

func bias(f api.Form) int { return 1<<(f.Exp-1) - 1 }

// leastExp is the exponent of the least float above nought.
func leastExp(f api.Form) int { return 1 - bias(f) - f.Frac }

func signBit(f api.Form) uint64 { return 1 << (f.Exp + f.Frac) }

// infinite is the bits of infinity; those of the greatest float are one below.
func infinite(f api.Form) uint64 { return (1<<f.Exp - 1) << f.Frac }

// smallForms are so small that all their floats can be gone through.
func smallForms() []api.Form {
	return []api.Form{form(2, 1), form(2, 2), form(2, 4), form(3, 1), form(3, 2), form(3, 3), form(4, 1), form(4, 2)}
}

// twoTo is for exponents of either sign.
func twoTo(n int) *big.Rat {
	p := new(big.Int).Lsh(big.NewInt(1), uint(max(n, -n)))
	if n < 0 {
		return new(big.Rat).SetFrac(big.NewInt(1), p)
	}
	return new(big.Rat).SetInt(p)
}

func frac(a, b int64) *big.Rat { return big.NewRat(a, b) }

func times(x, y *big.Rat) *big.Rat { return new(big.Rat).Mul(x, y) }

func plus(x, y *big.Rat) *big.Rat { return new(big.Rat).Add(x, y) }

func less(x, y *big.Rat) *big.Rat { return new(big.Rat).Sub(x, y) }

func turned(x *big.Rat) *big.Rat { return new(big.Rat).Neg(x) }

// worthOf is what a float without a sign is worth, as the document's first page says it; infinity's bits count as if exponents had no upper end.
func worthOf(f api.Form, bits uint64) *big.Rat {
	exp, rest := int(bits>>f.Frac), bits%(1<<f.Frac)
	if exp > 0 {
		rest += 1 << f.Frac
		exp--
	}
	n := new(big.Rat).SetInt(new(big.Int).SetUint64(rest))
	return times(n, twoTo(exp+leastExp(f)))
}

// longest is the greatest number that may be; it is odd.
func longest() api.Nat {
	return api.Nat{Limbs: slices.Repeat([]uint32{math.MaxUint32}, api.MaxLimbs)}
}

// asRatio is a fraction as the program has it.
func asRatio(x *big.Rat) api.Ratio {
	r, _, e := ratio.Parse(x.RatString())
	if e != api.OK {
		panic(e)
	}
	return r
}

// asDyadic is for numbers whose lower number is a power of two.
func asDyadic(x *big.Rat) api.Dyadic {
	if x.Sign() == 0 {
		return api.Dyadic{}
	}
	n := new(big.Int).Abs(x.Num())
	twos := n.TrailingZeroBits()
	mant, _, e := nat.Parse(n.Rsh(n, twos).String())
	if e != api.OK {
		panic(e)
	}
	return api.Dyadic{Neg: x.Sign() < 0, Mant: mant, Exp: int(twos) - x.Denom().BitLen() + 1}
}

// sides are the two numbers that x, above nought, lies between, of those that have a first bit and so many behind it, the last of them not below 2 to the power of least; and whether the lower one is an odd number of their steps.
func sides(x *big.Rat, frac, least int) (low, high *big.Rat, odd bool) {
	first := x.Num().BitLen() - x.Denom().BitLen()
	if twoTo(first).Cmp(x) > 0 {
		first--
	}
	step := twoTo(max(least, first-frac))
	steps := new(big.Rat).Quo(x, step)
	n := new(big.Int).Quo(steps.Num(), steps.Denom())
	low = times(new(big.Rat).SetInt(n), step)
	return low, plus(low, step), n.Bit(0) == 1
}

// chosen is the one of sides of x, not nought, that the words of the mode choose, without its sign.
func chosen(x *big.Rat, frac, least int, mode uint8) *big.Rat {
	size := new(big.Rat).Abs(x)
	low, high, odd := sides(size, frac, least)
	if low.Cmp(size) == 0 {
		return low
	}
	nearer := less(size, low).Cmp(less(high, size))
	far := map[uint8]bool{
		api.Even: nearer > 0 || nearer == 0 && odd,
		api.Away: nearer >= 0,
		api.Zero: false,
		api.Up:   x.Sign() > 0,
		api.Down: x.Sign() < 0,
	}
	if far[mode] {
		return high
	}
	return low
}

// bitsOf is the float that is worth x, found among those of about its size, as their worths rise with their bits; infinity, if x is beyond all.
func bitsOf(f api.Form, x *big.Rat) uint64 {
	if x.Sign() == 0 {
		return 0
	}
	size := x.Num().BitLen() - x.Denom().BitLen() - leastExp(f) - f.Frac
	low := min(uint64(min(max(0, size-1), 1<<f.Exp))<<f.Frac, infinite(f))
	high := min(low+4<<f.Frac, infinite(f))
	for low < high {
		mid := low + (high-low)/2
		if worthOf(f, mid).Cmp(x) < 0 {
			low = mid + 1
		} else {
			high = mid
		}
	}
	return low
}

// want is what is owed for x, not nought, by the document's words.
func want(f api.Form, x *big.Rat, mode uint8) (bits uint64, flags uint8) {
	size := new(big.Rat).Abs(x)
	answer := chosen(x, f.Frac, leastExp(f), mode)
	bits = bitsOf(f, answer)
	switch {
	case answer.Cmp(worthOf(f, infinite(f))) >= 0:
		flags = overflow
		if mode == api.Zero || mode == api.Up && x.Sign() < 0 || mode == api.Down && x.Sign() > 0 {
			bits--
		}
	case answer.Cmp(size) != 0:
		flags = inexact
		if chosen(x, f.Frac, math.MinInt, mode).Cmp(worthOf(f, 1<<f.Frac)) < 0 {
			flags = underflow
		}
	}
	if x.Sign() < 0 {
		bits += signBit(f)
	}
	return bits, flags
}

// told is an answer of the calls that round to a float.
type told struct {
	bits  uint64
	flags uint8
	e     api.Errno
}

func tell(bits uint64, flags uint8, e api.Errno) told { return told{bits, flags, e} }

// source is the same at every run.
func source(seed uint64) *rand.Rand { return rand.New(rand.NewPCG(seed, 5)) }

// some is a fraction, not nought, of either sign, of about the size 2 to the power of exp.
func some(r *rand.Rand, exp int) *big.Rat {
	n := func() int64 { return 1 + r.Int64()>>r.IntN(63) }
	x := big.NewRat(n(), n())
	x.Mul(x, twoTo(exp-x.Num().BitLen()+x.Denom().BitLen()))
	if r.IntN(2) == 0 {
		x.Neg(x)
	}
	return x
}

// check rounds by every mode and wants what is owed.
func check(t *testing.T, f api.Form, x *big.Rat) {
	t.Helper()
	r := asRatio(x)
	for _, mode := range everyMode {
		bits, flags := want(f, x, mode)
		// neg counts for nothing beside nought.
		for _, neg := range []bool{false, true} {
			if got := tell(Ratio(f, r, neg, mode)); got != (told{bits, flags, api.OK}) {
				t.Errorf("Ratio(%v, %s, %v, mode %d): %#x, flags %d, error %d; want %#x, flags %d", f, short(x), neg, mode, got.bits, got.flags, int(got.e), bits, flags)
			}
		}
	}
}

func short(x *big.Rat) string {
	s := x.RatString()
	if len(s) > 100 {
		return s[:100] + " .."
	}
	return s
}
