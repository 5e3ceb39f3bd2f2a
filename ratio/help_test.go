package ratio

import (
	"math/big"
	"math/rand/v2"
	"slices"
	"strings"
	"testing"

	"numeral/api"
)

// limbs is a whole number as it is written, not trimmed.
func limbs(l ...uint32) api.Nat { return api.Nat{Limbs: l} }

// asBig and natOf go by bytes, not by any call of the program.
func asBig(a api.Nat) *big.Int {
	b := make([]byte, 0, 4*len(a.Limbs))
	for _, limb := range slices.Backward(a.Limbs) {
		b = append(b, byte(limb>>24), byte(limb>>16), byte(limb>>8), byte(limb))
	}
	return new(big.Int).SetBytes(b)
}

func natOf(n *big.Int) api.Nat {
	b := n.Bytes()
	slices.Reverse(b)
	l := make([]uint32, (len(b)+3)/4)
	for i, x := range b {
		l[i/4] |= uint32(x) << (8 * (i % 4))
	}
	return api.Nat{Limbs: l}
}

// asRat is for fractions whose Den is not nought.
func asRat(r api.Ratio) *big.Rat {
	x := new(big.Rat).SetFrac(asBig(r.Num), asBig(r.Den))
	if r.Neg {
		x.Neg(x)
	}
	return x
}

// ratioOf is the one form that a number has.
func ratioOf(x *big.Rat) api.Ratio {
	return api.Ratio{Neg: x.Sign() < 0, Num: natOf(x.Num()), Den: natOf(x.Denom())}
}

// frac reads "n/d", or "n", in tens. (The library's own fractions would take a nought ahead for a sign of eights.)
func frac(t *testing.T, s string) api.Ratio {
	t.Helper()
	upper, lower, cut := strings.Cut(s, "/")
	if !cut {
		lower = "1"
	}
	num, ok := new(big.Int).SetString(upper, 10)
	den, okToo := new(big.Int).SetString(lower, 10)
	if !ok || !okToo {
		t.Fatalf("no fraction: %q", s)
	}
	return over(num, den)
}

// over is a fraction of great numbers.
func over(num, den *big.Int) api.Ratio {
	return ratioOf(new(big.Rat).SetFrac(num, den))
}

// power and the like are for numbers too great to be written out.
func power(b, n int64) *big.Int { return new(big.Int).Exp(big.NewInt(b), big.NewInt(n), nil) }

func plus(x *big.Int, n int64) *big.Int { return new(big.Int).Add(x, big.NewInt(n)) }

func times(x, y *big.Int) *big.Int { return new(big.Int).Mul(x, y) }

// beyond is the least number that has too many limbs.
func beyond() *big.Int { return power(2, maxBits) }

// source is the same at every run.
func source(seed uint64) *rand.Rand { return rand.New(rand.NewPCG(seed, 2)) }

// someNat has up to so many limbs, edges among them.
func someNat(r *rand.Rand, most int) *big.Int {
	l := make([]uint32, r.IntN(most+1))
	for i := range l {
		switch r.IntN(4) {
		case 0:
			l[i] = 0xffffffff
		case 1:
			l[i] = r.Uint32N(8)
		default:
			l[i] = r.Uint32()
		}
	}
	return asBig(api.Nat{Limbs: l})
}

// some is often nought, often whole, and often shares factors with others.
func some(r *rand.Rand, most int) api.Ratio {
	num, den := someNat(r, most), plus(someNat(r, most), 1)
	switch r.IntN(5) {
	case 0:
		den = big.NewInt(r.Int64N(12) + 1)
	case 1:
		den = power(r.Int64N(9)+2, r.Int64N(int64(10*most)))
	}
	if r.IntN(2) == 0 {
		num.Neg(num)
	}
	return over(num, den)
}

func fits(x *big.Rat) bool {
	return x.Num().BitLen() <= maxBits && x.Denom().BitLen() <= maxBits
}

func sameFields(a, b api.Ratio) bool {
	return a.Neg == b.Neg && slices.Equal(a.Num.Limbs, b.Num.Limbs) && slices.Equal(a.Den.Limbs, b.Den.Limbs)
}

// same wants the one form that the number has, and OK; or ErrMany, if it has too many limbs.
func same(t *testing.T, what string, got api.Ratio, e api.Errno, want *big.Rat) {
	t.Helper()
	if !fits(want) {
		refused(t, what, got, e, api.ErrMany)
		return
	}
	if e != api.OK || !sameFields(got, ratioOf(want)) {
		t.Errorf("%s: error %d, %v %s/%s; want %s", what, int(e), got.Neg, brief(asBig(got.Num)), brief(asBig(got.Den)), brief(want.Num())+"/"+brief(want.Denom()))
	}
}

// refused wants this error and nothing beside it.
func refused(t *testing.T, what string, got api.Ratio, e, want api.Errno) {
	t.Helper()
	if e != want || !sameFields(got, api.Ratio{}) {
		t.Errorf("%s: error %d, %d and %d limbs; want error %d with none", what, int(e), len(got.Num.Limbs), len(got.Den.Limbs), int(want))
	}
}

func brief(n *big.Int) string {
	if n.BitLen() > 1000 {
		return "(of " + big.NewInt(int64(n.BitLen())).String() + " bits)"
	}
	return n.String()
}
