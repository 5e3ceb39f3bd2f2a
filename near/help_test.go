package near

import (
	"cmp"
	"math/big"
	"math/rand/v2"
	"slices"
	"testing"

	"numeral/api"
	"numeral/ratio"
)

var everyMode = []uint8{api.Even, api.Away, api.Zero, api.Up, api.Down}

var (
	half   = form(5, 10)
	brain  = form(8, 7)
	single = form(8, 23)
	double = form(11, 52)
)

func form(exp, frac int) api.Form { return api.Form{Exp: exp, Frac: frac} }

// smallForms are so small that all their floats can be gone through.
func smallForms() []api.Form {
	return []api.Form{form(2, 1), form(2, 2), form(2, 4), form(3, 1), form(3, 2), form(3, 3), form(4, 1), form(4, 2), form(5, 1)}
}

// edgeForms are those with names and those at the ends of the widths.
func edgeForms() []api.Form {
	return []api.Form{half, brain, single, double, form(2, 1), form(2, 52), form(11, 1), form(3, 52), form(11, 51), form(10, 52)}
}

func bias(f api.Form) int { return 1<<(f.Exp-1) - 1 }

// minus is the sign bit alone, minus nought.
func minus(f api.Form) uint64 { return 1 << (f.Exp + f.Frac) }

func infinite(f api.Form) uint64 { return (1<<f.Exp - 1) << f.Frac }

func greatest(f api.Form) uint64 { return infinite(f) - 1 }

// isNaN is asked of the bits without the sign.
func isNaN(f api.Form, bits uint64) bool { return bits%minus(f) > infinite(f) }

// twoTo is for exponents of either sign.
func twoTo(n int) *big.Rat {
	p := new(big.Int).Lsh(big.NewInt(1), uint(max(n, -n)))
	if n < 0 {
		return new(big.Rat).SetFrac(big.NewInt(1), p)
	}
	return new(big.Rat).SetInt(p)
}

func times(x, y *big.Rat) *big.Rat { return new(big.Rat).Mul(x, y) }

func plus(x, y *big.Rat) *big.Rat { return new(big.Rat).Add(x, y) }

func less(x, y *big.Rat) *big.Rat { return new(big.Rat).Sub(x, y) }

func halfway(x, y *big.Rat) *big.Rat { return times(plus(x, y), big.NewRat(1, 2)) }

// worth is what a float is worth, as the document's first page says it; infinity as if exponents had no upper end.
func worth(f api.Form, bits uint64) *big.Rat {
	exp, number := int(bits%minus(f)>>f.Frac), bits%(1<<f.Frac)
	if exp > 0 {
		number += 1 << f.Frac
	}
	x := times(new(big.Rat).SetInt(new(big.Int).SetUint64(number)), twoTo(max(exp, 1)-bias(f)-f.Frac))
	if bits >= minus(f) {
		x.Neg(x)
	}
	return x
}

// allNumbers are all floats of a small form that are numbers but minus nought, sorted by their worths alone.
func allNumbers(f api.Form) []uint64 {
	var all []uint64
	for bits := range 2 * minus(f) {
		if !isNaN(f, bits) && bits != minus(f) {
			all = append(all, bits)
		}
	}
	slices.SortFunc(all, func(a, b uint64) int { return worth(f, a).Cmp(worth(f, b)) })
	return all
}

// allBits are all bits of a small form in the document's row: first those with the sign bit, falling, then those without, rising.
func allBits(f api.Form) []uint64 {
	var all []uint64
	for rest := minus(f); rest > 0; rest-- {
		all = append(all, minus(f)+rest-1)
	}
	for bits := range minus(f) {
		all = append(all, bits)
	}
	return all
}

// edges are the floats of a form that the document names, and those beside them, of both signs; all are finite.
func edges(f api.Form) []uint64 {
	top := uint64(1) << f.Frac
	var all []uint64
	for _, bits := range []uint64{0, 1, 2, 3, top - 1, top, top + 1, 2*top - 1, 2 * top, 2*top + 1, uint64(bias(f)) * top, uint64(bias(f))*top + 1, uint64(bias(f))*top - 1, greatest(f) - top, greatest(f) - top + 1, greatest(f) - 1, greatest(f)} {
		all = append(all, bits, bits+minus(f))
	}
	slices.Sort(all)
	return slices.Compact(all)
}

// source is the same at every run.
func source(seed uint64) *rand.Rand { return rand.New(rand.NewPCG(seed, 6)) }

// some is a finite float of either sign, now and then near an edge.
func some(r *rand.Rand, f api.Form) uint64 {
	bits := r.Uint64N(infinite(f))
	if r.IntN(4) == 0 {
		bits &^= 1<<r.IntN(f.Frac+1) - 1
	}
	return bits + minus(f)*r.Uint64N(2)
}

// asBig is for fractions that may be.
func asBig(t *testing.T, r api.Ratio) *big.Rat {
	t.Helper()
	if e := ratio.Check(r); e != api.OK {
		t.Fatalf("a fraction that may not be: %v, error %d", r, int(e))
	}
	text, e := ratio.Text(r)
	x, ok := new(big.Rat).SetString(text)
	if e != api.OK || !ok {
		t.Fatalf("the text of a fraction: %s, error %d", text, int(e))
	}
	return x
}

func asRatio(x *big.Rat) api.Ratio {
	r, _, e := ratio.Parse(x.RatString())
	if e != api.OK {
		panic(e)
	}
	return r
}

// sameDyadic holds d against x, which is told by fields: an odd number, and nought as it must be.
func sameDyadic(d api.Dyadic, x *big.Rat) bool {
	if x.Sign() == 0 {
		return !d.Neg && d.Exp == 0 && len(d.Mant.Limbs) == 0
	}
	if len(d.Mant.Limbs) == 0 || d.Mant.Limbs[0]&1 == 0 || d.Mant.Limbs[len(d.Mant.Limbs)-1] == 0 {
		return false
	}
	n := new(big.Int)
	for _, limb := range slices.Backward(d.Mant.Limbs) {
		n.Or(n.Lsh(n, 32), big.NewInt(int64(limb)))
	}
	got := times(new(big.Rat).SetInt(n), twoTo(d.Exp))
	if d.Neg {
		got.Neg(got)
	}
	return got.Cmp(x) == 0
}

func zeroDyadic(d api.Dyadic) bool { return !d.Neg && d.Exp == 0 && d.Mant.Limbs == nil }

func zeroRatio(r api.Ratio) bool { return !r.Neg && r.Num.Limbs == nil && r.Den.Limbs == nil }

// Each kind of answer, as one thing that can be compared.
type (
	toldBits struct {
		bits uint64
		e    api.Errno
	}
	toldCmp struct {
		order int
		is    bool
		e     api.Errno
	}
	toldOrder struct {
		order int
		e     api.Errno
	}
	toldSteps struct {
		neg bool
		n   uint64
		e   api.Errno
	}
)

func tellBits(bits uint64, e api.Errno) toldBits          { return toldBits{bits, e} }
func tellCmp(order int, is bool, e api.Errno) toldCmp     { return toldCmp{order, is, e} }
func tellOrder(order int, e api.Errno) toldOrder          { return toldOrder{order, e} }
func tellSteps(neg bool, n uint64, e api.Errno) toldSteps { return toldSteps{neg, n, e} }
func wantSteps(from, to int) toldSteps {
	return toldSteps{to < from, uint64(max(from-to, to-from)), api.OK}
}
func wantOrder(a, b int) toldOrder { return toldOrder{cmp.Compare(a, b), api.OK} }
func wantCmp(a, b int) toldCmp     { return toldCmp{cmp.Compare(a, b), true, api.OK} }

func wants[T comparable](t *testing.T, got, want T, f api.Form, what string, floats ...uint64) {
	t.Helper()
	if got != want {
		t.Errorf("%s of %#x in %v: %v, want %v", what, floats, f, got, want)
	}
}

// reach is an answer of Reach without an error.
type reach struct {
	low, high     *big.Rat
	lowIn, highIn bool
}

func reachOf(t *testing.T, f api.Form, bits uint64, mode uint8) reach {
	t.Helper()
	low, high, lowIn, highIn, e := Reach(f, bits, mode)
	if e != api.OK {
		t.Fatalf("Reach(%v, %#x, %d): error %d", f, bits, mode, int(e))
	}
	return reach{asBig(t, low), asBig(t, high), lowIn, highIn}
}

func (r reach) String() string {
	in := map[bool]string{true: " (in)", false: " (out)"}
	return short(r.low) + in[r.lowIn] + " to " + short(r.high) + in[r.highIn]
}

func (r reach) is(other reach) bool {
	return r.low.Cmp(other.low) == 0 && r.high.Cmp(other.high) == 0 && r.lowIn == other.lowIn && r.highIn == other.highIn
}

func (r reach) has(x *big.Rat) bool {
	low, high := x.Cmp(r.low), x.Cmp(r.high)
	return low >= 0 && high <= 0 && (low > 0 || r.lowIn) && (high < 0 || r.highIn)
}

func short(x *big.Rat) string {
	s := x.RatString()
	if len(s) > 60 {
		return s[:60] + " .."
	}
	return s
}
