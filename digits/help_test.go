package digits

import (
	"math"
	"math/big"
	"math/rand/v2"
	"slices"
	"strconv"
	"strings"
	"testing"

	"numeral/api"
	"numeral/dec"
)

const most = api.MaxPlaces

// everyMode is all modes that may be, in the order of their numbers.
var everyMode = []uint8{api.Even, api.Away, api.Zero, api.Up, api.Down}

var (
	least  = form(2, 1)
	half   = form(5, 10)
	brain  = form(8, 7)
	single = form(8, 23)
	double = form(11, 52)
)

func form(exp, frac int) api.Form { return api.Form{Exp: exp, Frac: frac} }

// allForms are all that may be.
func allForms() []api.Form {
	var all []api.Form
	for exp := 2; exp <= 11; exp++ {
		for frac := 1; frac <= 52; frac++ {
			all = append(all, form(exp, frac))
		}
	}
	return all
}

// someForms are those with names, those with the fewest and the most bits of each field, and a few between.
func someForms() []api.Form {
	return []api.Form{half, brain, single, double, least, form(2, 52), form(11, 1), form(3, 2), form(4, 3), form(6, 30), form(10, 41)}
}

// smallForms are so small that all their floats can be gone through.
func smallForms() []api.Form {
	return []api.Form{least, form(2, 2), form(3, 1), form(3, 2), form(4, 3), form(2, 6), form(5, 4), form(4, 6), form(3, 8), form(7, 1)}
}

func bias(f api.Form) int { return 1<<(f.Exp-1) - 1 }

// minus is the sign bit alone, minus nought.
func minus(f api.Form) uint64 { return 1 << (f.Exp + f.Frac) }

// infinite is the bits of infinity; those of the greatest float are one below.
func infinite(f api.Form) uint64 { return (1<<f.Exp - 1) << f.Frac }

// normal is the bits of the least normal float.
func normal(f api.Form) uint64 { return 1 << f.Frac }

// both is each float without and with its minus, no two alike.
func both(f api.Form, floats []uint64) []uint64 {
	for _, float := range floats {
		floats = append(floats, float^minus(f))
	}
	slices.Sort(floats)
	return slices.Compact(floats)
}

// edges are the finite floats that the document names, and those beside them.
func edges(f api.Form) []uint64 {
	n, one := normal(f), uint64(bias(f))<<f.Frac
	return both(f, []uint64{0, 1, 2, 3, n / 2, n - 1, n, n + 1, 2*n - 1, 2 * n, one - n, one - 1, one, one + 1, one + n/2, one + n - 1, infinite(f) - n, infinite(f) - 2, infinite(f) - 1})
}

// finite are all floats of a small form that have no sign.
func finite(f api.Form) []uint64 {
	all := make([]uint64, infinite(f))
	for i := range all {
		all[i] = uint64(i)
	}
	return all
}

// powers are powers of two of both sides of 1, as far as the form has them; all those that are not far from 1.
func powers(f api.Form) []uint64 {
	var all []uint64
	least := 1 - bias(f) - f.Frac
	for exp := least; exp <= bias(f); exp++ {
		if exp > -70 && exp < 70 || exp%37 == 0 {
			all = append(all, powerOf(f, exp))
		}
	}
	return all
}

// powerOf is the float that is worth 2 to the power of exp.
func powerOf(f api.Form, exp int) uint64 {
	if exp > -bias(f) {
		return uint64(exp+bias(f)) << f.Frac
	}
	return 1 << (exp - (1 - bias(f) - f.Frac))
}

// wholes are floats that are worth whole numbers, with noughts at their end above all.
func wholes(f api.Form) []uint64 {
	var all []uint64
	for ten := 1.0; ten < 1e23; ten *= 10 {
		for _, n := range []float64{1, 2, 3, 5, 8, 9, 12, 125, 999} {
			if bits, ok := floatOf(f, n*ten); ok {
				all = append(all, bits)
			}
		}
	}
	return all
}

// floatOf is the float that is worth just v, from 1 on; false, if there is none.
func floatOf(f api.Form, v float64) (uint64, bool) {
	frac, exp := math.Frexp(v) // from 1/2 on, below 1
	steps := math.Ldexp(frac, f.Frac+1)
	if exp-1 > bias(f) || steps != math.Trunc(steps) {
		return 0, false
	}
	return uint64(exp-1+bias(f))<<f.Frac + uint64(steps) - normal(f), true
}

// source is the same at every run.
func source(seed uint64) *rand.Rand { return rand.New(rand.NewPCG(seed, 17)) }

// someFloat is a finite one of either sign; now and then one that has few bits, or is near to nought.
func someFloat(r *rand.Rand, f api.Form) uint64 {
	float := r.Uint64N(infinite(f))
	switch r.IntN(6) {
	case 0, 1:
		float &^= 1<<r.IntN(f.Frac+1) - 1
	case 2:
		float >>= r.IntN(1 + f.Exp + f.Frac)
	}
	return float + minus(f)*r.Uint64N(2)
}

// someForm is any that may be.
func someForm(r *rand.Rand) api.Form { return form(2+r.IntN(10), 1+r.IntN(52)) }

// worthOf is what a finite float is worth, as the document's first page says it: a whole number times 2 to the power of exp. The sign is told beside it, as it is nought's, too.
func worthOf(f api.Form, float uint64) (neg bool, x *big.Rat, exp int) {
	rest := float % minus(f)
	e, n := int(rest>>f.Frac), rest%normal(f)
	if e > 0 {
		n += normal(f)
		e--
	}
	exp = e + 1 - bias(f) - f.Frac
	two := new(big.Rat).SetInt(new(big.Int).Lsh(big.NewInt(1), uint(max(exp, -exp))))
	if exp < 0 {
		two.Inv(two)
	}
	x = new(big.Rat).SetInt(new(big.Int).SetUint64(n))
	return float >= minus(f), x.Mul(x, two), exp
}

// signed is what a finite float is worth, with its sign.
func signed(f api.Form, float uint64) *big.Rat {
	neg, x, _ := worthOf(f, float)
	if neg {
		x.Neg(x)
	}
	return x
}

// allOf is the decimal of a finite float: the text that the library has of its worth, with a place for each power of two below the line.
func allOf(f api.Form, float uint64) api.Dec {
	neg, x, exp := worthOf(f, float)
	return said(neg, x.FloatString(max(-exp, 0)))
}

// said is the decimal of a text with a point or none, and no sign.
func said(neg bool, text string) api.Dec {
	ahead, behind, _ := strings.Cut(text, ".")
	return only(neg, ahead+behind, -len(behind))
}

// only is the one decimal of some digits times 10 to the power of exp.
func only(neg bool, digits string, exp int) api.Dec {
	digits = strings.TrimLeft(digits, "0")
	rest := strings.TrimRight(digits, "0")
	if rest == "" {
		return api.Dec{Neg: neg}
	}
	return api.Dec{Neg: neg, Digits: rest, Exp: exp + len(digits) - len(rest)}
}

// saidWith is the decimal of a text with an exponent, as strconv writes it.
func saidWith(t *testing.T, text string) api.Dec {
	t.Helper()
	rest, neg := strings.CutPrefix(text, "-")
	digits, exp, ok := strings.Cut(rest, "e")
	n, err := strconv.Atoi(exp)
	if !ok || err != nil {
		t.Fatalf("no exponent: %s", text)
	}
	d := said(neg, digits)
	if d.Digits != "" {
		d.Exp += n
	}
	return d
}

// native is the number of one of Go's own forms, and how many bits it has; false of other forms.
func native(f api.Form, float uint64) (v float64, size int, ok bool) {
	switch f {
	case double:
		return math.Float64frombits(float), 64, true
	case single:
		return float64(math.Float32frombits(uint32(float))), 32, true
	}
	return 0, 0, false
}

func power10(n int) *big.Int { return new(big.Int).Exp(big.NewInt(10), big.NewInt(int64(n)), nil) }

// units is x, without its sign, in units of 10 to the power of exp.
func units(x *big.Rat, exp int) *big.Rat {
	ten := new(big.Rat).SetInt(power10(max(exp, -exp)))
	if exp > 0 {
		ten.Inv(ten)
	}
	return ten.Mul(ten, x)
}

// wholeOf rounds x, which has no sign, but for the one that is told beside it; the bool: it is x.
func wholeOf(x *big.Rat, neg bool, mode uint8) (*big.Int, bool) {
	n, rest := new(big.Int).QuoRem(x.Num(), x.Denom(), new(big.Int))
	if rest.Sign() == 0 {
		return n, true
	}
	order := rest.Lsh(rest, 1).Cmp(x.Denom())
	farther := [...]bool{
		api.Even: order > 0 || order == 0 && n.Bit(0) == 1,
		api.Away: order >= 0,
		api.Zero: false,
		api.Up:   !neg,
		api.Down: neg,
	}
	if farther[mode] {
		n.Add(n, big.NewInt(1))
	}
	return n, false
}

// told is what Some and Places answer beside OK.
type told struct {
	d  api.Dec
	is bool
}

// cutAt is a finite float rounded to a multiple of 10 to the power of exp.
func cutAt(f api.Form, float uint64, exp int, mode uint8) told {
	neg, x, _ := worthOf(f, float)
	n, is := wholeOf(units(x, exp), neg, mode)
	return told{only(neg, n.String(), exp), is}
}

// someOf is a finite float with so many digits, by the document's words.
func someOf(f api.Form, float uint64, digits int, mode uint8) told {
	d := allOf(f, float)
	if len(d.Digits) <= digits {
		return told{d, true}
	}
	return cutAt(f, float, d.Exp+len(d.Digits)-digits, mode)
}

// placesOf is a finite float with so many places.
func placesOf(f api.Form, float uint64, places int, mode uint8) told {
	return cutAt(f, float, -places, mode)
}

// dc is a decimal as it is written; a minus ahead of the digits sets Neg.
func dc(digits string, exp int) api.Dec {
	rest, neg := strings.CutPrefix(digits, "-")
	return api.Dec{Neg: neg, Digits: rest, Exp: exp}
}

// turned is a decimal with its sign turned, nought's too.
func turned(d api.Dec) api.Dec {
	d.Neg = !d.Neg
	return d
}

func show(d api.Dec) string {
	digits := d.Digits
	if len(digits) > 60 {
		digits = digits[:20] + ".." + digits[len(digits)-20:] + " (" + strconv.Itoa(len(digits)) + " digits)"
	}
	if d.Neg {
		digits = "-" + digits
	}
	return digits + " e " + strconv.Itoa(d.Exp)
}

// mustAll is All of a finite float.
func mustAll(t *testing.T, f api.Form, float uint64) api.Dec {
	t.Helper()
	d, e := All(f, float)
	if e != api.OK || dec.Check(d) != api.OK {
		t.Fatalf("All(%v, %#x): %s, error %d", f, float, show(d), int(e))
	}
	return d
}

// allIs wants this decimal of All, and the number of its digits of Count.
func allIs(t *testing.T, f api.Form, float uint64, want api.Dec) {
	t.Helper()
	if d, e := All(f, float); d != want || e != api.OK {
		t.Errorf("All(%v, %#x): %s, error %d; want %s", f, float, show(d), int(e), show(want))
	}
	if n, e := Count(f, float); n != len(want.Digits) || e != api.OK {
		t.Errorf("Count(%v, %#x): %d, error %d; want %d", f, float, n, int(e), len(want.Digits))
	}
}
