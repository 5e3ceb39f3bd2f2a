package turn

import (
	"math"
	"math/big"
	"math/rand/v2"
	"slices"
	"testing"

	"numeral/api"
)

const (
	inexact   = api.FlagInexact
	overflow  = api.FlagInexact | api.FlagOverflow
	underflow = api.FlagInexact | api.FlagUnderflow
	isInvalid = api.FlagInvalid
)

// everyMode is all modes that may be, in the order of their numbers.
var everyMode = []uint8{api.Even, api.Away, api.Zero, api.Up, api.Down}

// everyWidth is all widths that may be.
var everyWidth = []int{8, 16, 32, 64}

var (
	half   = form(5, 10)
	brain  = form(8, 7)
	single = form(8, 23)
	double = form(11, 52)
	least  = form(2, 1)
)

func form(exp, frac int) api.Form { return api.Form{Exp: exp, Frac: frac} }

// smallForms are so small that all of their floats can be gone through, into many forms.
func smallForms() []api.Form {
	return []api.Form{least, form(2, 2), form(3, 1), form(2, 3), form(3, 2), form(4, 1), form(2, 4), form(3, 3), form(4, 2), form(5, 2), form(4, 3)}
}

// edgeForms are those with names and those at the ends of the widths.
func edgeForms() []api.Form {
	return []api.Form{half, brain, single, double, least, form(2, 52), form(11, 1), form(3, 52), form(11, 51), form(10, 52), form(4, 3), form(5, 2)}
}

// allForms are all that may be.
func allForms() []api.Form {
	var all []api.Form
	for exp := 2; exp <= 11; exp++ {
		for frac := 1; frac <= 52; frac++ {
			all = append(all, form(exp, frac))
		}
	}
	return all
}

func bias(f api.Form) int { return 1<<(f.Exp-1) - 1 }

// leastExp is the exponent of two of the least float above nought.
func leastExp(f api.Form) int { return 1 - bias(f) - f.Frac }

// minus is the sign bit alone, minus nought.
func minus(f api.Form) uint64 { return 1 << (f.Exp + f.Frac) }

func infinity(f api.Form) uint64 { return (1<<f.Exp - 1) << f.Frac }

func greatest(f api.Form) uint64 { return infinity(f) - 1 }

func normal(f api.Form) uint64 { return 1 << f.Frac }

// one is the float that is worth 1.
func one(f api.Form) uint64 { return uint64(bias(f)) << f.Frac }

// theNaN has no sign, is quiet, and has no payload.
func theNaN(f api.Form) uint64 { return infinity(f) + 1<<(f.Frac-1) }

func isNeg(f api.Form, bits uint64) bool { return bits >= minus(f) }

func isNaN(f api.Form, bits uint64) bool { return bits%minus(f) > infinity(f) }

func isQuiet(f api.Form, bits uint64) bool { return bits>>(f.Frac-1)%2 == 1 }

func isInf(f api.Form, bits uint64) bool { return bits%minus(f) == infinity(f) }

// signed is a float without a sign, given one.
func signed(f api.Form, bits uint64, neg bool) uint64 {
	if neg {
		return bits + minus(f)
	}
	return bits
}

// edges are the floats of a form that the document names, and those beside them, of both signs; all are finite.
func edges(f api.Form) []uint64 {
	top := normal(f)
	var all []uint64
	for _, bits := range []uint64{0, 1, 2, 3, top - 1, top, top + 1, 2*top - 1, 2 * top, 2*top + 1, one(f) - 1, one(f), one(f) + 1, one(f) + top/2, greatest(f) - top, greatest(f) - top + 1, greatest(f) - 1, greatest(f)} {
		all = append(all, bits, bits+minus(f))
	}
	slices.Sort(all)
	return slices.Compact(all)
}

// nans are quiet ones and others, of both signs, with and without payloads.
func nans(f api.Form) []uint64 {
	var all []uint64
	for _, bits := range []uint64{theNaN(f), theNaN(f) + 1, infinity(f) + 1, theNaN(f) - 1, minus(f) - 1} {
		if bits > infinity(f) && bits < minus(f) {
			all = append(all, bits, bits+minus(f))
		}
	}
	slices.Sort(all)
	return slices.Compact(all)
}

// allEdges are edges, infinities and what is no number.
func allEdges(f api.Form) []uint64 {
	return slices.Concat(edges(f), []uint64{infinity(f), infinity(f) + minus(f)}, nans(f))
}

// source is the same at every run.
func source(seed uint64) *rand.Rand { return rand.New(rand.NewPCG(seed, 8)) }

// some is a finite float of either sign, now and then one with few bits, or an edge.
func some(r *rand.Rand, f api.Form) uint64 {
	bits := r.Uint64N(infinity(f))
	switch r.IntN(8) {
	case 0, 1:
		bits &^= 1<<r.IntN(f.Frac+1) - 1
	case 2:
		all := edges(f)
		return all[r.IntN(len(all))]
	}
	return bits + minus(f)*r.Uint64N(2)
}

// twoTo is for exponents of either sign.
func twoTo(n int) *big.Rat {
	p := new(big.Int).Lsh(big.NewInt(1), uint(max(n, -n)))
	if n < 0 {
		return new(big.Rat).SetFrac(big.NewInt(1), p)
	}
	return new(big.Rat).SetInt(p)
}

func times(x, y *big.Rat) *big.Rat { return new(big.Rat).Mul(x, y) }

func plus(x, y *big.Rat) *big.Rat { return new(big.Rat).Add(x, y) }

func halfway(x, y *big.Rat) *big.Rat { return times(plus(x, y), big.NewRat(1, 2)) }

// worth is what a float is worth, as the document's first page says it; infinity as if exponents had no upper end.
func worth(f api.Form, bits uint64) *big.Rat {
	exp, n := int(bits%minus(f)>>f.Frac), bits%normal(f)
	if exp > 0 {
		n += normal(f)
	}
	x := times(new(big.Rat).SetInt(new(big.Int).SetUint64(n)), twoTo(max(exp, 1)-bias(f)-f.Frac))
	if isNeg(f, bits) {
		x.Neg(x)
	}
	return x
}

// cutAt is x, above nought, told as so many times 2 to the power of step, without what is left, and what is left against the half of a step: -1, 0 or 1; -2, if nothing is.
func cutAt(x *big.Rat, step int) (n *big.Int, left int) {
	num, den := new(big.Int).Set(x.Num()), new(big.Int).Set(x.Denom())
	if step < 0 {
		num.Lsh(num, uint(-step))
	} else {
		den.Lsh(den, uint(step))
	}
	n, rest := new(big.Int).QuoRem(num, den, new(big.Int))
	if rest.Sign() == 0 {
		return n, -2
	}
	return n, rest.Lsh(rest, 1).Cmp(den)
}

// farther is whether the words of the mode choose, of the two numbers that one of this sign lies between, the one farther from nought: n is the nearer one, left as cutAt tells it.
func farther(n *big.Int, left int, neg bool, mode uint8) bool {
	switch mode {
	case api.Even:
		return left > 0 || left == 0 && n.Bit(0) == 1
	case api.Away:
		return left >= 0
	case api.Up:
		return left > -2 && !neg
	case api.Down:
		return left > -2 && neg
	}
	return false
}

// chosen is what the mode chooses for x, not nought, without its sign, among the numbers that have a first bit and so many behind it, the last one not below 2 to the power of low: n times 2 to the power of step, and whether it is x.
func chosen(x *big.Rat, frac, low int, mode uint8) (n *big.Int, step int, same bool) {
	size := new(big.Rat).Abs(x)
	first := size.Num().BitLen() - size.Denom().BitLen()
	if twoTo(first).Cmp(size) > 0 {
		first--
	}
	step = max(low, first-frac)
	n, left := cutAt(size, step)
	if farther(n, left, x.Sign() < 0, mode) {
		n.Add(n, big.NewInt(1))
	}
	return n, step, left == -2
}

// told is an answer of the calls that round.
type told struct {
	bits  uint64
	flags uint8
	e     api.Errno
}

func tell(bits uint64, flags uint8, e api.Errno) told { return told{bits, flags, e} }

// rounds is what x rounds to, by the document's words; neg is the sign of nought.
func rounds(f api.Form, x *big.Rat, neg bool, mode uint8) told {
	if x.Sign() == 0 {
		return told{bits: signed(f, 0, neg)}
	}
	neg = x.Sign() < 0
	n, step, same := chosen(x, f.Frac, leastExp(f), mode)
	if n.BitLen()+step > bias(f)+1 {
		if mode == api.Zero || mode == api.Up && neg || mode == api.Down && !neg {
			return told{bits: signed(f, greatest(f), neg), flags: overflow}
		}
		return told{bits: signed(f, infinity(f), neg), flags: overflow}
	}
	// The first bit of a normal float counts one in its exponent, so that a sum puts the fields together.
	bits := uint64(step-leastExp(f))<<f.Frac + n.Uint64()
	if size := times(new(big.Rat).SetInt(n), twoTo(step)); worth(f, bits).Cmp(size) != 0 {
		panic("the float that is wanted is not worth what it must be")
	}
	answer := told{bits: signed(f, bits, neg)}
	if !same {
		answer.flags = inexact
		if n, step, _ := chosen(x, f.Frac, math.MinInt32, mode); n.BitLen()+step <= 1-bias(f) {
			answer.flags = underflow
		}
	}
	return answer
}

// wholeOf is the whole number to which x rounds, by the words of the mode, and whether it is x.
func wholeOf(x *big.Rat, mode uint8) (*big.Int, bool) {
	n, left := cutAt(new(big.Rat).Abs(x), 0)
	if farther(n, left, x.Sign() < 0, mode) {
		n.Add(n, big.NewInt(1))
	}
	if x.Sign() < 0 {
		n.Neg(n)
	}
	return n, left == -2
}

// inForm is the float of a form that is worth x, if there is one.
func inForm(f api.Form, x *big.Rat) (uint64, bool) {
	a := rounds(f, x, x.Sign() < 0, api.Even)
	return a.bits, a.flags == 0
}

// eachForm does a test for each of some forms at the same time.
func eachForm(t *testing.T, forms []api.Form, do func(t *testing.T, f api.Form)) {
	t.Helper()
	for _, f := range forms {
		t.Run("", func(t *testing.T) {
			t.Parallel()
			do(t, f)
		})
	}
}

// Types of one's own, over every kind.
type (
	ownSingle float32
	ownDouble float64
	ownInt    int
	ownInt8   int8
	ownInt16  int16
	ownInt32  int32
	ownInt64  int64
	ownUint   uint
	ownUint8  uint8
	ownUint16 uint16
	ownUint32 uint32
	ownUint64 uint64
)
