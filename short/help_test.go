package short

import (
	"math"
	"math/big"
	"math/rand/v2"
	"slices"
	"strconv"
	"strings"
	"testing"

	"numeral/api"
)

// everyMode is all modes that may be, in the order of their numbers.
var everyMode = []uint8{api.Even, api.Away, api.Zero, api.Up, api.Down}

// mirrored is the mode that does with a number what another does with it, when its sign is turned.
var mirrored = [...]uint8{api.Even: api.Even, api.Away: api.Away, api.Zero: api.Zero, api.Up: api.Down, api.Down: api.Up}

var (
	least  = form(2, 1)
	half   = form(5, 10)
	brain  = form(8, 7)
	single = form(8, 23)
	double = form(11, 52)
)

func form(exp, frac int) api.Form { return api.Form{Exp: exp, Frac: frac} }

// allForms are all that may be.
func allForms() []api.Form {
	var all []api.Form
	for exp := 2; exp <= 11; exp++ {
		for frac := 1; frac <= 52; frac++ {
			all = append(all, form(exp, frac))
		}
	}
	return all
}

// someForms are those with names, those with the fewest and the most bits of each field, and a few between.
func someForms() []api.Form {
	return []api.Form{half, brain, single, double, least, form(2, 52), form(11, 1), form(3, 2), form(4, 3), form(6, 30), form(10, 41)}
}

// smallForms are so small that all decimals of a few digits can be tried.
func smallForms() []api.Form {
	return []api.Form{least, form(2, 2), form(3, 1), form(3, 2), form(4, 3), form(2, 6), form(5, 4), form(4, 6), form(3, 8), form(6, 1)}
}

func bias(f api.Form) int { return 1<<(f.Exp-1) - 1 }

// minus is the sign bit alone, minus nought.
func minus(f api.Form) uint64 { return 1 << (f.Exp + f.Frac) }

// infinite is the bits of infinity; those of the greatest float are one below.
func infinite(f api.Form) uint64 { return (1<<f.Exp - 1) << f.Frac }

// normal is the bits of the least normal float.
func normal(f api.Form) uint64 { return 1 << f.Frac }

// both is each float without and with its minus, no two alike.
func both(f api.Form, floats []uint64) []uint64 {
	for _, float := range floats {
		floats = append(floats, float^minus(f))
	}
	slices.Sort(floats)
	return slices.Compact(floats)
}

// edges are the finite floats without a sign that the document names, and those beside them: the noughts and the least ones, the greatest subnormal and the least normal ones, powers of two, odd ones and even ones, the greatest.
func edges(f api.Form) []uint64 {
	n, one := normal(f), uint64(bias(f))<<f.Frac
	all := []uint64{0, 1, 2, 3, n / 2, n - 1, n, n + 1, 2*n - 1, 2 * n, 2*n + 1, one - n, one - 1, one, one + 1, one + n/2, one + n - 1, infinite(f) - n - 1, infinite(f) - n, infinite(f) - n + 1, infinite(f) - 2, infinite(f) - 1}
	slices.Sort(all)
	return slices.DeleteFunc(slices.Compact(all), func(float uint64) bool { return float >= infinite(f) })
}

// aboutPowers are powers of two, below which floats lie closer, and their neighbours; as many as are asked for, some of each part of the form.
func aboutPowers(f api.Form, many int) []uint64 {
	var all []uint64
	last := 1<<f.Exp - 2
	for e := 1; e <= last; e += 1 + last/many {
		power := uint64(e) << f.Frac
		all = append(all, power-1, power, power+1)
	}
	for float := uint64(2); float < normal(f); float *= 8 {
		all = append(all, float-1, float, float+1)
	}
	return all
}

// wholes are floats that are worth whole numbers, with noughts at their end above all.
func wholes(f api.Form) []uint64 {
	var all []uint64
	for ten := 1.0; ten < 1e23; ten *= 10 {
		for _, n := range []float64{1, 2, 5, 9, 12, 125, 999} {
			if float, ok := floatOf(f, n*ten); ok {
				all = append(all, float)
			}
		}
	}
	return all
}

// floatOf is the float that is worth just v, from 1 on; false, if there is none.
func floatOf(f api.Form, v float64) (uint64, bool) {
	frac, exp := math.Frexp(v) // from 1/2 on, below 1
	steps := math.Ldexp(frac, f.Frac+1)
	if exp-1 > bias(f) || steps != math.Trunc(steps) {
		return 0, false
	}
	return uint64(exp-1+bias(f))<<f.Frac + uint64(steps) - normal(f), true
}

// source is the same at every run.
func source(seed uint64) *rand.Rand { return rand.New(rand.NewPCG(seed, 18)) }

// someFloat is a finite one of either sign, but no nought; now and then one that has few bits, or is near to nought.
func someFloat(r *rand.Rand, f api.Form) uint64 {
	float := r.Uint64N(infinite(f))
	switch r.IntN(6) {
	case 0, 1:
		float &^= 1<<r.IntN(f.Frac+1) - 1
	case 2:
		float >>= r.IntN(1 + f.Exp + f.Frac)
	}
	return max(float, 1) + minus(f)*r.Uint64N(2)
}

// someForm is any that may be.
func someForm(r *rand.Rand) api.Form { return form(2+r.IntN(10), 1+r.IntN(52)) }

// twoTo is for exponents of either sign.
func twoTo(n int) *big.Rat {
	p := new(big.Rat).SetInt(new(big.Int).Lsh(big.NewInt(1), uint(max(n, -n))))
	if n < 0 {
		p.Inv(p)
	}
	return p
}

// worthOf is what a float is worth, as the document's first page says it; infinity as if exponents had no upper end.
func worthOf(f api.Form, float uint64) *big.Rat {
	rest := float % minus(f)
	e, n := int(rest>>f.Frac), rest%normal(f)
	if e > 0 {
		n += normal(f)
	}
	x := new(big.Rat).SetInt(new(big.Int).SetUint64(n))
	x.Mul(x, twoTo(max(e, 1)-bias(f)-f.Frac))
	if float >= minus(f) {
		x.Neg(x)
	}
	return x
}

// native is the number of one of Go's own forms, and how many bits it has; false of other forms.
func native(f api.Form, float uint64) (v float64, size int, ok bool) {
	switch f {
	case double:
		return math.Float64frombits(float), 64, true
	case single:
		return float64(math.Float32frombits(uint32(float))), 32, true
	}
	return 0, 0, false
}

// rat is a number, or one over another one, as it is written; each may have an exponent of ten.
func rat(text string) *big.Rat {
	above, below, over := strings.Cut(text, "/")
	x, ok := new(big.Rat).SetString(above)
	if !ok {
		panic(text)
	}
	if over {
		x.Quo(x, rat(below))
	}
	return x
}

func plus(x, y *big.Rat) *big.Rat { return new(big.Rat).Add(x, y) }

func less(x, y *big.Rat) *big.Rat { return new(big.Rat).Sub(x, y) }

func times(x, y *big.Rat) *big.Rat { return new(big.Rat).Mul(x, y) }

func turnedRat(x *big.Rat) *big.Rat { return new(big.Rat).Neg(x) }

func halfway(x, y *big.Rat) *big.Rat { return times(plus(x, y), big.NewRat(1, 2)) }

// tenTo is for exponents of either sign.
func tenTo(n int) *big.Rat {
	p := new(big.Rat).SetInt(power10(max(n, -n)))
	if n < 0 {
		p.Inv(p)
	}
	return p
}

func power10(n int) *big.Int { return new(big.Int).Exp(big.NewInt(10), big.NewInt(int64(n)), nil) }

// nat is a whole number's limbs, without its sign.
func nat(x *big.Int) api.Nat {
	var limbs []uint32
	for n := new(big.Int).Abs(x); n.Sign() > 0; n.Rsh(n, 32) {
		limbs = append(limbs, uint32(n.Uint64()))
	}
	return api.Nat{Limbs: limbs}
}

func fraction(x *big.Rat) api.Ratio {
	return api.Ratio{Neg: x.Sign() < 0, Num: nat(x.Num()), Den: nat(x.Denom())}
}

// only is the one decimal of some digits times 10 to the power of exp.
func only(neg bool, digits string, exp int) api.Dec {
	digits = strings.TrimLeft(digits, "0")
	rest := strings.TrimRight(digits, "0")
	if rest == "" {
		return api.Dec{Neg: neg}
	}
	return api.Dec{Neg: neg, Digits: rest, Exp: exp + len(digits) - len(rest)}
}

// decimalOf is the decimal that is worth x; false, if there is none.
func decimalOf(x *big.Rat) (api.Dec, bool) {
	places, ok := x.FloatPrec()
	if !ok {
		return api.Dec{}, false
	}
	abs := new(big.Rat).Abs(x)
	ahead, behind, _ := strings.Cut(abs.FloatString(places), ".")
	return only(x.Sign() < 0, ahead+behind, -len(behind)), true
}

// ratOf is what a decimal is worth. Its exponent is not far away.
func ratOf(d api.Dec) *big.Rat {
	if d.Digits == "" {
		return new(big.Rat)
	}
	x := times(rat(d.Digits), tenTo(d.Exp))
	if d.Neg {
		x.Neg(x)
	}
	return x
}

// dc is a decimal as it is written; a minus ahead of the digits sets Neg.
func dc(digits string, exp int) api.Dec {
	rest, neg := strings.CutPrefix(digits, "-")
	return api.Dec{Neg: neg, Digits: rest, Exp: exp}
}

// turned is a decimal with its sign turned, nought's too.
func turned(d api.Dec) api.Dec {
	d.Neg = !d.Neg
	return d
}

func show(d api.Dec) string {
	digits := d.Digits
	if len(digits) > 60 {
		digits = digits[:20] + ".." + digits[len(digits)-20:] + " (" + strconv.Itoa(len(digits)) + " digits)"
	}
	if d.Neg {
		digits = "-" + digits
	}
	return digits + " e " + strconv.Itoa(d.Exp)
}

func showRat(x *big.Rat) string {
	if text := x.RatString(); len(text) < 60 {
		return text
	}
	return "about " + new(big.Float).SetRat(x).Text('g', 30)
}

// digitsAre wants this decimal of Digits.
func digitsAre(t *testing.T, f api.Form, float uint64, mode uint8, want api.Dec) {
	t.Helper()
	if d, e := Digits(f, float, mode); d != want || e != api.OK {
		t.Errorf("Digits(%v, %#x, mode %d): %s, error %d; want %s", f, float, mode, show(d), int(e), show(want))
	}
}

func digitsRefuses(t *testing.T, f api.Form, bits uint64, mode uint8, want api.Errno) {
	t.Helper()
	if d, e := Digits(f, bits, mode); d != (api.Dec{}) || e != want {
		t.Errorf("Digits(%v, %#x, mode %d): %s, error %d; want the error %d", f, bits, mode, show(d), int(e), int(want))
	}
}

// backIs wants this answer of Back.
func backIs(t *testing.T, f api.Form, d api.Dec, bits uint64, mode uint8, want bool) {
	t.Helper()
	if is, e := Back(f, d, bits, mode); is != want || e != api.OK {
		t.Errorf("Back(%v, %s, %#x, mode %d): %v, error %d; want %v", f, show(d), bits, mode, is, int(e), want)
	}
}

func backRefuses(t *testing.T, f api.Form, d api.Dec, bits uint64, mode uint8, want api.Errno) {
	t.Helper()
	if is, e := Back(f, d, bits, mode); is || e != want {
		t.Errorf("Back(%v, %s, %#x, mode %d): %v, error %d; want the error %d", f, show(d), bits, mode, is, int(e), int(want))
	}
}
