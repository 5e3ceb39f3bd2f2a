package exact

import (
	"math"
	"math/big"
	"math/rand/v2"
	"slices"
	"strconv"
	"testing"

	"numeral/api"
)

const (
	far     = api.MaxExp
	maxBits = api.MaxLimbs * 32
)

// limbs is a whole number as it is written, not trimmed.
func limbs(l ...uint32) api.Nat { return api.Nat{Limbs: l} }

// asBig and natOf go by bytes, not by any call of the program.
func asBig(a api.Nat) *big.Int {
	b := make([]byte, 0, 4*len(a.Limbs))
	for _, limb := range slices.Backward(a.Limbs) {
		b = append(b, byte(limb>>24), byte(limb>>16), byte(limb>>8), byte(limb))
	}
	return new(big.Int).SetBytes(b)
}

// natOf drops the sign.
func natOf(n *big.Int) api.Nat {
	b := n.Bytes()
	slices.Reverse(b)
	l := make([]uint32, (len(b)+3)/4)
	for i, x := range b {
		l[i/4] |= uint32(x) << (8 * (i % 4))
	}
	return api.Nat{Limbs: l}
}

func twoTo(n int) *big.Int { return new(big.Int).Lsh(big.NewInt(1), uint(n)) }

func plus(x *big.Int, n int64) *big.Int { return new(big.Int).Add(x, big.NewInt(n)) }

func turned(x *big.Int) *big.Int { return new(big.Int).Neg(x) }

// tooLong has one limb more than a whole number may have.
func tooLong() api.Nat { return natOf(twoTo(maxBits)) }

// longest is the greatest number that may be; it is odd.
func longest() *big.Int { return plus(twoTo(maxBits), -1) }

// dy is a dyadic as it is written, its sign that of n.
func dy(n int64, exp int) api.Dyadic { return great(big.NewInt(n), exp) }

// great is likewise for long numbers.
func great(n *big.Int, exp int) api.Dyadic {
	return api.Dyadic{Neg: n.Sign() < 0, Mant: natOf(n), Exp: exp}
}

// asInt is a dyadic's number with its sign.
func asInt(d api.Dyadic) *big.Int {
	n := asBig(d.Mant)
	if d.Neg {
		n.Neg(n)
	}
	return n
}

// asRat is for exponents that can be laid out.
func asRat(d api.Dyadic) *big.Rat { return shifted(asInt(d), d.Exp) }

// shifted is n times 2 to the power of exp.
func shifted(n *big.Int, exp int) *big.Rat {
	x := new(big.Rat).SetInt(n)
	if exp >= 0 {
		return x.Mul(x, new(big.Rat).SetInt(twoTo(exp)))
	}
	return x.Mul(x, new(big.Rat).SetFrac(big.NewInt(1), twoTo(-exp)))
}

// only is the one dyadic that is worth n times 2 to the power of exp.
func only(n *big.Int, exp int) api.Dyadic {
	if n.Sign() == 0 {
		return api.Dyadic{}
	}
	twos := n.TrailingZeroBits()
	return great(new(big.Int).Quo(n, twoTo(int(twos))), exp+int(twos))
}

func sameFields(a, b api.Dyadic) bool {
	return a.Neg == b.Neg && a.Exp == b.Exp && slices.Equal(a.Mant.Limbs, b.Mant.Limbs)
}

func show(d api.Dyadic) string {
	n := "(of " + strconv.Itoa(len(d.Mant.Limbs)) + " limbs)"
	if len(d.Mant.Limbs) < 20 {
		n = asBig(d.Mant).String()
	}
	if d.Neg {
		n = "-" + n
	}
	return n + " x 2^" + strconv.Itoa(d.Exp)
}

// wants wants this error, and beside OK this dyadic, beside others none.
func wants(t *testing.T, what string, got api.Dyadic, e api.Errno, want api.Dyadic, wantErr api.Errno) {
	t.Helper()
	if wantErr != api.OK {
		want = api.Dyadic{}
	}
	if e != wantErr || !sameFields(got, want) {
		t.Errorf("%s: %s, error %d; want %s, error %d", what, show(got), int(e), show(want), int(wantErr))
	}
}

// wrong is a dyadic that may not be, and how Check refuses it.
type wrong struct {
	what string
	d    api.Dyadic
	e    api.Errno
}

// wrongDyadics are of each kind that may not be; of those that have several faults the number's own comes first.
func wrongDyadics() []wrong {
	all := []wrong{
		{"2", dy(2, 0), api.ErrDyadic},
		{"-2", dy(-2, 0), api.ErrDyadic},
		{"12 x 2^-3", dy(12, -3), api.ErrDyadic},
		{"2^32", dy(1<<32, 0), api.ErrDyadic},
		{"2^32 + 2", dy(1<<32+2, 0), api.ErrDyadic},
		{"even, of MaxLimbs limbs", great(plus(longest(), -1), 0), api.ErrDyadic},
		{"even, beyond the end", dy(2, far+1), api.ErrDyadic},
		{"nought x 2^1", dy(0, 1), api.ErrDyadic},
		{"nought x 2^-1", dy(0, -1), api.ErrDyadic},
		{"nought x 2^far", dy(0, far), api.ErrDyadic},
		{"nought x 2^the least int", dy(0, math.MinInt), api.ErrDyadic},
		{"-nought", api.Dyadic{Neg: true}, api.ErrDyadic},
		{"-nought, empty limbs", api.Dyadic{Neg: true, Mant: limbs([]uint32{}...)}, api.ErrDyadic},
		{"-nought x 2^1", api.Dyadic{Neg: true, Exp: 1}, api.ErrDyadic},
		{"a last limb 0", api.Dyadic{Mant: limbs(1, 0)}, api.ErrNat},
		{"a last limb 0, beyond the end", api.Dyadic{Mant: limbs(1, 0), Exp: far + 1}, api.ErrNat},
		{"even, a last limb 0", api.Dyadic{Mant: limbs(2, 0)}, api.ErrNat},
		{"nought written with a limb", api.Dyadic{Mant: limbs(0)}, api.ErrNat},
		{"-nought written with a limb", api.Dyadic{Neg: true, Mant: limbs(0), Exp: 1}, api.ErrNat},
		{"too many limbs, even", api.Dyadic{Mant: tooLong()}, api.ErrMany},
		{"too many limbs, odd", great(plus(twoTo(maxBits), 1), 0), api.ErrMany},
		{"too many limbs, beyond the end", great(plus(twoTo(maxBits), 1), far+1), api.ErrMany},
		{"too many limbs, all of 0", api.Dyadic{Mant: api.Nat{Limbs: make([]uint32, api.MaxLimbs+1)}}, api.ErrMany},
	}
	for _, exp := range []int{far + 1, -far - 1, 2 * far, -2 * far, math.MaxInt, math.MinInt} {
		what := "x 2^" + strconv.Itoa(exp)
		all = append(all, wrong{"1 " + what, dy(1, exp), api.ErrDyadic}, wrong{"-3 " + what, dy(-3, exp), api.ErrDyadic})
	}
	return all
}

func form(exp, frac int) api.Form { return api.Form{Exp: exp, Frac: frac} }

// allForms is all forms that may be.
func allForms() []api.Form {
	var all []api.Form
	for exp := 2; exp <= 11; exp++ {
		for frac := 1; frac <= 52; frac++ {
			all = append(all, form(exp, frac))
		}
	}
	return all
}

// smallForms is the forms of so few bits that all of them can be gone through.
func smallForms() []api.Form {
	return slices.DeleteFunc(allForms(), func(f api.Form) bool { return size(f) > 9 })
}

// wrongForms is forms of one more or one less in either place, and such as lie far off.
func wrongForms() []api.Form {
	return []api.Form{{}, form(1, 5), form(12, 5), form(5, 0), form(5, 53), form(1, 0), form(12, 53), form(-1, -1), form(64, 64), form(math.MaxInt, math.MaxInt), form(math.MinInt, math.MinInt), form(1<<32+5, 1<<32+10)}
}

// size is how many bits a form has.
func size(f api.Form) int { return 1 + f.Exp + f.Frac }

func bias(f api.Form) int { return 1<<(f.Exp-1) - 1 }

// leastExp is the exponent of the least float above nought.
func leastExp(f api.Form) int { return 1 - bias(f) - f.Frac }

// put is the float with these fields.
func put(f api.Form, neg bool, exp, frac uint64) uint64 {
	bits := exp<<f.Frac + frac
	if neg {
		bits += 1 << (size(f) - 1)
	}
	return bits
}

// finite is bits of all finite floats of a form, if it is small, else of those at the ends of its fields and of some between; both signs.
func finite(f api.Form) []uint64 {
	var all []uint64
	last, whole := uint64(1)<<f.Exp-1, uint64(1)<<f.Frac-1
	if size(f) <= 9 {
		for bits := range last << f.Frac {
			all = append(all, bits, bits+1<<(size(f)-1))
		}
		return all
	}
	r := source(uint64(100*f.Exp + f.Frac))
	for _, exp := range []uint64{0, 1, 2, last / 2, last - 1, r.Uint64N(last), r.Uint64N(last)} {
		for _, frac := range []uint64{0, 1, whole / 2, whole/2 + 1, whole - 1, whole, r.Uint64N(whole)} {
			frac &= whole
			all = append(all, put(f, false, exp, frac), put(f, true, exp, frac))
		}
	}
	return all
}

// worthOf is what a finite float is worth, as the document's first page says it: a number and an exponent.
func worthOf(f api.Form, bits uint64) (*big.Int, int) {
	rest := bits % (1 << (size(f) - 1))
	exp, frac := int(rest>>f.Frac), int64(rest%(1<<f.Frac))
	n, two := big.NewInt(frac), 1-bias(f)-f.Frac
	if exp > 0 {
		n, two = plus(twoTo(f.Frac), frac), exp-bias(f)-f.Frac
	}
	if rest != bits {
		n = turned(n)
	}
	return n, two
}

// source is the same at every run.
func source(seed uint64) *rand.Rand { return rand.New(rand.NewPCG(seed, 4)) }

// someInt has up to so many limbs and either sign, edges among them.
func someInt(r *rand.Rand, most int) *big.Int {
	l := make([]uint32, r.IntN(most+1))
	for i := range l {
		switch r.IntN(4) {
		case 0:
			l[i] = 0xffffffff
		case 1:
			l[i] = r.Uint32N(8)
		default:
			l[i] = r.Uint32()
		}
	}
	n := asBig(api.Nat{Limbs: l})
	if r.IntN(2) == 0 {
		n.Neg(n)
	}
	return n
}

// some is a dyadic that may be, sometimes nought.
func some(r *rand.Rand, most int) api.Dyadic {
	return only(someInt(r, most), r.IntN(200)-100)
}
