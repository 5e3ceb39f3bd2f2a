package soft

import (
	"math"
	"math/big"
	"math/rand/v2"
	"slices"
	"testing"

	"numeral/api"
)

const (
	inexact   = api.FlagInexact
	overflow  = api.FlagInexact | api.FlagOverflow
	underflow = api.FlagInexact | api.FlagUnderflow
	divide    = api.FlagDivide
	isInvalid = api.FlagInvalid
)

// everyMode is all modes that may be, in the order of their numbers.
var everyMode = []uint8{api.Even, api.Away, api.Zero, api.Up, api.Down}

var (
	half   = form(5, 10)
	brain  = form(8, 7)
	single = form(8, 23)
	double = form(11, 52)
)

func form(exp, frac int) api.Form { return api.Form{Exp: exp, Frac: frac} }

// smallForms are so small that all pairs of their floats can be gone through; the first ones, all triples.
func smallForms() []api.Form {
	return []api.Form{form(2, 1), form(2, 2), form(3, 1), form(2, 3), form(3, 2), form(4, 1), form(2, 4), form(3, 3), form(4, 2)}
}

// edgeForms are those with names and those at the ends of the widths.
func edgeForms() []api.Form {
	return []api.Form{half, brain, single, double, form(2, 1), form(2, 52), form(11, 1), form(3, 52), form(11, 51), form(10, 52)}
}

// allForms are all that may be.
func allForms() []api.Form {
	var all []api.Form
	for exp := 2; exp <= 11; exp++ {
		for frac := 1; frac <= 52; frac++ {
			all = append(all, form(exp, frac))
		}
	}
	return all
}

func bias(f api.Form) int { return 1<<(f.Exp-1) - 1 }

// leastExp is the exponent of two of the least float above nought.
func leastExp(f api.Form) int { return 1 - bias(f) - f.Frac }

// minus is the sign bit alone, minus nought.
func minus(f api.Form) uint64 { return 1 << (f.Exp + f.Frac) }

func infinity(f api.Form) uint64 { return (1<<f.Exp - 1) << f.Frac }

func greatest(f api.Form) uint64 { return infinity(f) - 1 }

func normal(f api.Form) uint64 { return 1 << f.Frac }

// one is the float that is worth 1.
func one(f api.Form) uint64 { return uint64(bias(f)) << f.Frac }

// theNaN has no sign, is quiet, and has no payload.
func theNaN(f api.Form) uint64 { return infinity(f) + 1<<(f.Frac-1) }

func isNeg(f api.Form, bits uint64) bool { return bits >= minus(f) }

func isNaN(f api.Form, bits uint64) bool { return bits%minus(f) > infinity(f) }

func isQuiet(f api.Form, bits uint64) bool { return bits>>(f.Frac-1)%2 == 1 }

func isInf(f api.Form, bits uint64) bool { return bits%minus(f) == infinity(f) }

func isZero(f api.Form, bits uint64) bool { return bits%minus(f) == 0 }

func isFinite(f api.Form, bits uint64) bool { return bits%minus(f) < infinity(f) }

// signed is a float without a sign, given one.
func signed(f api.Form, bits uint64, neg bool) uint64 {
	if neg {
		return bits + minus(f)
	}
	return bits
}

// edges are the floats of a form that the document names, and those beside them, of both signs; all are finite.
func edges(f api.Form) []uint64 {
	top := normal(f)
	var all []uint64
	for _, bits := range []uint64{0, 1, 2, 3, top - 1, top, top + 1, 2*top - 1, 2 * top, 2*top + 1, one(f) - 1, one(f), one(f) + 1, one(f) + top/2, greatest(f) - top, greatest(f) - top + 1, greatest(f) - 1, greatest(f)} {
		all = append(all, bits, bits+minus(f))
	}
	slices.Sort(all)
	return slices.Compact(all)
}

// nans are quiet ones and others, of both signs, with and without payloads.
func nans(f api.Form) []uint64 {
	var all []uint64
	for _, bits := range []uint64{theNaN(f), theNaN(f) + 1, infinity(f) + 1, theNaN(f) - 1, minus(f) - 1} {
		if bits > infinity(f) && bits < minus(f) {
			all = append(all, bits, bits+minus(f))
		}
	}
	slices.Sort(all)
	return slices.Compact(all)
}

// allEdges are edges, infinities and what is no number.
func allEdges(f api.Form) []uint64 {
	return slices.Concat(edges(f), []uint64{infinity(f), infinity(f) + minus(f)}, nans(f))
}

// source is the same at every run.
func source(seed uint64) *rand.Rand { return rand.New(rand.NewPCG(seed, 7)) }

// some is a finite float of either sign, now and then one with few bits, or an edge.
func some(r *rand.Rand, f api.Form) uint64 {
	bits := r.Uint64N(infinity(f))
	switch r.IntN(8) {
	case 0, 1:
		bits &^= 1<<r.IntN(f.Frac+1) - 1
	case 2:
		all := edges(f)
		return all[r.IntN(len(all))]
	}
	return bits + minus(f)*r.Uint64N(2)
}

// about is a normal float without a sign, between 2 to the power of -4 and 16, where the form has these.
func about(r *rand.Rand, f api.Form) uint64 {
	low := max(bias(f)-4, 1)
	high := min(bias(f)+4, 1<<f.Exp-1)
	return uint64(low)<<f.Frac + r.Uint64N(uint64(high-low)<<f.Frac)
}

// twoTo is for exponents of either sign.
func twoTo(n int) *big.Rat {
	p := new(big.Int).Lsh(big.NewInt(1), uint(max(n, -n)))
	if n < 0 {
		return new(big.Rat).SetFrac(big.NewInt(1), p)
	}
	return new(big.Rat).SetInt(p)
}

func times(x, y *big.Rat) *big.Rat { return new(big.Rat).Mul(x, y) }

func plus(x, y *big.Rat) *big.Rat { return new(big.Rat).Add(x, y) }

func over(x, y *big.Rat) *big.Rat { return new(big.Rat).Quo(x, y) }

func halfway(x, y *big.Rat) *big.Rat { return times(plus(x, y), big.NewRat(1, 2)) }

// worth is what a float is worth, as the document's first page says it; infinity as if exponents had no upper end.
func worth(f api.Form, bits uint64) *big.Rat {
	exp, n := int(bits%minus(f)>>f.Frac), bits%normal(f)
	if exp > 0 {
		n += normal(f)
	}
	x := times(new(big.Rat).SetInt(new(big.Int).SetUint64(n)), twoTo(max(exp, 1)-bias(f)-f.Frac))
	if isNeg(f, bits) {
		x.Neg(x)
	}
	return x
}

// cut is x, above nought, told as so many times 2 to the power of step, without what is left, and what is left against the half of a step: -1, 0 or 1; -2, if nothing is.
func cut(x *big.Rat, step int) (n *big.Int, left int) {
	num, den := new(big.Int).Set(x.Num()), new(big.Int).Set(x.Denom())
	if step < 0 {
		num.Lsh(num, uint(-step))
	} else {
		den.Lsh(den, uint(step))
	}
	n, rest := new(big.Int).QuoRem(num, den, new(big.Int))
	if rest.Sign() == 0 {
		return n, -2
	}
	return n, rest.Lsh(rest, 1).Cmp(den)
}

// chosen is what the words of the mode choose for x, not nought, without its sign, among the numbers that have a first bit and so many behind it, the last one not below 2 to the power of least: n times 2 to the power of step, and whether it is x.
func chosen(x *big.Rat, frac, least int, mode uint8) (n *big.Int, step int, same bool) {
	size := new(big.Rat).Abs(x)
	first := size.Num().BitLen() - size.Denom().BitLen()
	if twoTo(first).Cmp(size) > 0 {
		first--
	}
	step = max(least, first-frac)
	n, left := cut(size, step)
	far := map[uint8]bool{
		api.Even: left > 0 || left == 0 && n.Bit(0) == 1,
		api.Away: left >= 0,
		api.Up:   left > -2 && x.Sign() > 0,
		api.Down: left > -2 && x.Sign() < 0,
	}
	if far[mode] {
		n.Add(n, big.NewInt(1))
	}
	return n, step, left == -2
}

// told is an answer of the calls that round.
type told struct {
	bits  uint64
	flags uint8
	e     api.Errno
}

func tell(bits uint64, flags uint8, e api.Errno) told { return told{bits, flags, e} }

// rounds is what x rounds to, by the document's words; neg is the sign of nought.
func rounds(f api.Form, x *big.Rat, neg bool, mode uint8) told {
	if x.Sign() == 0 {
		return told{bits: signed(f, 0, neg)}
	}
	neg = x.Sign() < 0
	n, step, same := chosen(x, f.Frac, leastExp(f), mode)
	if n.BitLen()+step > bias(f)+1 {
		if mode == api.Zero || mode == api.Up && neg || mode == api.Down && !neg {
			return told{bits: signed(f, greatest(f), neg), flags: overflow}
		}
		return told{bits: signed(f, infinity(f), neg), flags: overflow}
	}
	// The first bit of a normal float counts one in its exponent, so that a sum puts the fields together.
	bits := uint64(step-leastExp(f))<<f.Frac + n.Uint64()
	if size := times(new(big.Rat).SetInt(n), twoTo(step)); worth(f, bits).Cmp(size) != 0 {
		panic("the float that is wanted is not worth what it must be")
	}
	answer := told{bits: signed(f, bits, neg)}
	if !same {
		answer.flags = inexact
		if n, step, _ := chosen(x, f.Frac, math.MinInt32, mode); n.BitLen()+step <= 1-bias(f) {
			answer.flags = underflow
		}
	}
	return answer
}

// ofNaNs is what an operation must answer where an operand is no number.
func ofNaNs(f api.Form, operands ...uint64) (told, bool) {
	answer, is := told{bits: theNaN(f)}, false
	for _, bits := range operands {
		if isNaN(f, bits) {
			is = true
			if !isQuiet(f, bits) {
				answer.flags = isInvalid
			}
		}
	}
	return answer, is
}

func noAnswer(f api.Form) told { return told{bits: theNaN(f), flags: isInvalid} }

// The two and three operands' calls, in shapes that can be handed on.
type (
	oneCall   func(f api.Form, a uint64, mode uint8) (uint64, uint8, api.Errno)
	twoCall   func(f api.Form, a, b uint64, mode uint8) (uint64, uint8, api.Errno)
	threeCall func(f api.Form, a, b, c uint64, mode uint8) (uint64, uint8, api.Errno)
	oneWant   func(f api.Form, a uint64, mode uint8) told
	twoWant   func(f api.Form, a, b uint64, mode uint8) told
	threeWant func(f api.Form, a, b, c uint64, mode uint8) told
)

func wants(t *testing.T, got, want told, what string, f api.Form, mode uint8, operands ...uint64) {
	t.Helper()
	if got != want {
		t.Errorf("%s of %#x in %v, mode %d: %#x, flags %d, error %d; want %#x, flags %d, error %d", what, operands, f, mode, got.bits, got.flags, int(got.e), want.bits, want.flags, int(want.e))
	}
}

// checkOne, checkTwo and checkThree hold a call against what is owed, by every mode.
func checkOne(t *testing.T, what string, call oneCall, want oneWant, f api.Form, a uint64) {
	t.Helper()
	for _, mode := range everyMode {
		wants(t, tell(call(f, a, mode)), want(f, a, mode), what, f, mode, a)
	}
}

func checkTwo(t *testing.T, what string, call twoCall, want twoWant, f api.Form, a, b uint64) {
	t.Helper()
	for _, mode := range everyMode {
		wants(t, tell(call(f, a, b, mode)), want(f, a, b, mode), what, f, mode, a, b)
	}
}

func checkThree(t *testing.T, what string, call threeCall, want threeWant, f api.Form, a, b, c uint64) {
	t.Helper()
	for _, mode := range everyMode {
		wants(t, tell(call(f, a, b, c, mode)), want(f, a, b, c, mode), what, f, mode, a, b, c)
	}
}

// eachForm does a test for each of some forms at the same time.
func eachForm(t *testing.T, forms []api.Form, do func(t *testing.T, f api.Form)) {
	t.Helper()
	for _, f := range forms {
		t.Run("", func(t *testing.T) {
			t.Parallel()
			do(t, f)
		})
	}
}

// throughPairs holds a call of two operands against what is owed: all pairs of the small forms, NaNs too; all pairs of the edges of the others; some pairs of any floats; a few pairs in every form.
func throughPairs(t *testing.T, what string, call twoCall, want twoWant) {
	t.Helper()
	t.Parallel()
	eachForm(t, smallForms(), func(t *testing.T, f api.Form) {
		for a := range 2 * minus(f) {
			for b := range 2 * minus(f) {
				checkTwo(t, what, call, want, f, a, b)
			}
		}
	})
	eachForm(t, edgeForms(), func(t *testing.T, f api.Form) {
		all := allEdges(f)
		for _, a := range all {
			for _, b := range all {
				checkTwo(t, what, call, want, f, a, b)
			}
		}
		r := source(uint64(100*f.Exp + f.Frac))
		for range 500 {
			checkTwo(t, what, call, want, f, some(r, f), some(r, f))
			checkTwo(t, what, call, want, f, about(r, f), signed(f, about(r, f), r.IntN(2) == 0))
		}
	})
	r := source(1)
	for _, f := range allForms() {
		for range 3 {
			checkTwo(t, what, call, want, f, some(r, f), some(r, f))
			checkTwo(t, what, call, want, f, about(r, f), about(r, f))
		}
	}
}

// throughAll is the same of a call of one operand; of Half it goes through all floats.
func throughAll(t *testing.T, what string, call oneCall, want oneWant) {
	t.Helper()
	t.Parallel()
	eachForm(t, append(smallForms(), half, form(2, 9)), func(t *testing.T, f api.Form) {
		for a := range 2 * minus(f) {
			checkOne(t, what, call, want, f, a)
		}
	})
	eachForm(t, edgeForms(), func(t *testing.T, f api.Form) {
		for _, a := range allEdges(f) {
			checkOne(t, what, call, want, f, a)
		}
		r := source(uint64(100*f.Exp + f.Frac))
		for range 500 {
			checkOne(t, what, call, want, f, some(r, f))
			checkOne(t, what, call, want, f, signed(f, about(r, f), r.IntN(2) == 0))
		}
	})
	r := source(2)
	for _, f := range allForms() {
		for range 3 {
			checkOne(t, what, call, want, f, some(r, f))
			checkOne(t, what, call, want, f, about(r, f))
		}
	}
}
