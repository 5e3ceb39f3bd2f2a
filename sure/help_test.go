package sure

import (
	"math"
	"math/big"
	"math/rand/v2"
	"slices"
	"strconv"
	"strings"
	"testing"

	"numeral/api"
)

// mostAsked is the most digits that may be asked for.
const mostAsked = 17

var (
	least  = form(2, 1)
	half   = form(5, 10)
	brain  = form(8, 7)
	single = form(8, 23)
	double = form(11, 52)
)

func form(exp, frac int) api.Form { return api.Form{Exp: exp, Frac: frac} }

// allForms are all that may be.
func allForms() []api.Form {
	var all []api.Form
	for exp := 2; exp <= 11; exp++ {
		for frac := 1; frac <= 52; frac++ {
			all = append(all, form(exp, frac))
		}
	}
	return all
}

// someForms are those with names, those with the fewest and the most bits of each field, and a few between.
func someForms() []api.Form {
	return []api.Form{half, brain, single, double, least, form(2, 52), form(11, 1), form(3, 2), form(4, 3), form(6, 30), form(10, 41)}
}

// smallForms are so small that all their floats can be gone through.
func smallForms() []api.Form {
	return []api.Form{least, form(2, 2), form(3, 1), form(3, 2), form(4, 3), form(2, 6), form(5, 4), form(4, 6), form(3, 8), form(6, 1), form(11, 1)}
}

func bias(f api.Form) int { return 1<<(f.Exp-1) - 1 }

// minus is the sign bit alone, minus nought.
func minus(f api.Form) uint64 { return 1 << (f.Exp + f.Frac) }

// infinite is the bits of infinity; those of the greatest float are one below.
func infinite(f api.Form) uint64 { return (1<<f.Exp - 1) << f.Frac }

// normal is the bits of the least normal float.
func normal(f api.Form) uint64 { return 1 << f.Frac }

// both is each float without and with its minus, no two alike.
func both(f api.Form, floats []uint64) []uint64 {
	for _, float := range floats {
		floats = append(floats, float^minus(f))
	}
	slices.Sort(floats)
	return slices.Compact(floats)
}

// edges are the finite floats without a sign that the document names, and those beside them: the noughts and the least ones, the greatest subnormal and the least normal ones, powers of two, odd ones and even ones, the greatest.
func edges(f api.Form) []uint64 {
	n, one := normal(f), uint64(bias(f))<<f.Frac
	all := []uint64{0, 1, 2, 3, n / 2, n - 1, n, n + 1, 2*n - 1, 2 * n, 2*n + 1, one - n, one - 1, one, one + 1, one + n/2, one + n - 1, infinite(f) - n - 1, infinite(f) - n, infinite(f) - n + 1, infinite(f) - 2, infinite(f) - 1}
	slices.Sort(all)
	return slices.DeleteFunc(slices.Compact(all), func(float uint64) bool { return float >= infinite(f) })
}

// aboutPowers are powers of two, below which floats lie closer, and their neighbours; as many as are asked for, some of each part of the form.
func aboutPowers(f api.Form, many int) []uint64 {
	var all []uint64
	last := 1<<f.Exp - 2
	for e := 1; e <= last; e += 1 + last/many {
		power := uint64(e) << f.Frac
		all = append(all, power-1, power, power+1)
	}
	for float := uint64(2); float < normal(f); float *= 8 {
		all = append(all, float-1, float, float+1)
	}
	return all
}

// wholes are floats that are worth whole numbers, with noughts at their end above all.
func wholes(f api.Form) []uint64 {
	var all []uint64
	for ten := 1.0; ten < 1e23; ten *= 10 {
		for _, n := range []float64{1, 2, 5, 9, 12, 15, 25, 125, 995, 999} {
			if float, ok := floatOf(f, n*ten); ok {
				all = append(all, float)
			}
		}
	}
	return all
}

// halves are floats whose decimals end with a 5, so that a digit less is just half way.
func halves(f api.Form) []uint64 {
	var all []uint64
	for _, odd := range []float64{1, 3, 5, 9, 11, 25, 999, 1001, 8191} {
		for down := 1.0; down > 0x1p-50; down /= 2 {
			if float, ok := floatOf(f, odd*down); ok {
				all = append(all, float)
			}
		}
	}
	return all
}

// floatOf is the normal float that is worth just v, above nought; false, if there is none.
func floatOf(f api.Form, v float64) (uint64, bool) {
	frac, exp := math.Frexp(v) // from 1/2 on, below 1
	steps := math.Ldexp(frac, f.Frac+1)
	if exp-1 > bias(f) || exp-1 < 1-bias(f) || steps != math.Trunc(steps) {
		return 0, false
	}
	return uint64(exp-1+bias(f))<<f.Frac + uint64(steps) - normal(f), true
}

// someOf are floats of a form, without a sign: the edges, powers of two and those beside them, whole numbers, halves, numbers about powers of ten, and some that are drawn.
func someOf(r *rand.Rand, f api.Form, powers, drawn int) []uint64 {
	all := append(edges(f), aboutPowers(f, powers)...)
	all = append(all, wholes(f)...)
	all = append(all, halves(f)...)
	all = append(all, aboutTens(f)...)
	for range drawn {
		all = append(all, someFloat(r, f)%minus(f))
	}
	slices.Sort(all)
	return slices.DeleteFunc(slices.Compact(all), func(float uint64) bool { return float >= infinite(f) })
}

// aboutTens are the last floats below powers of ten, and the first ones that are not.
func aboutTens(f api.Form) []uint64 {
	var all []uint64
	for p := firstOf(f, 1); p <= firstOf(f, infinite(f)-1); p += 1 + f.Exp/4 {
		low, high := uint64(1), infinite(f)
		for low < high {
			if mid := (low + high) / 2; firstOf(f, mid) < p {
				low = mid + 1
			} else {
				high = mid
			}
		}
		for float := max(low, 3) - 2; float <= low+1; float++ {
			all = append(all, float)
		}
	}
	return all
}

// source is the same at every run.
func source(seed uint64) *rand.Rand { return rand.New(rand.NewPCG(seed, 19)) }

// someFloat is a finite one of either sign, but no nought; now and then one that has few bits, or is near to nought.
func someFloat(r *rand.Rand, f api.Form) uint64 {
	float := r.Uint64N(infinite(f))
	switch r.IntN(6) {
	case 0, 1:
		float &^= 1<<r.IntN(f.Frac+1) - 1
	case 2:
		float >>= r.IntN(1 + f.Exp + f.Frac)
	}
	return max(float, 1) + minus(f)*r.Uint64N(2)
}

// someForm is any that may be.
func someForm(r *rand.Rand) api.Form { return form(2+r.IntN(10), 1+r.IntN(52)) }

// only is the one decimal of some digits times 10 to the power of exp.
func only(neg bool, digits string, exp int) api.Dec {
	rest := strings.TrimRight(digits, "0")
	if rest == "" {
		return api.Dec{Neg: neg}
	}
	return api.Dec{Neg: neg, Digits: rest, Exp: exp + len(digits) - len(rest)}
}

// dc is a decimal as it is written; a minus ahead of the digits sets Neg.
func dc(digits string, exp int) api.Dec {
	rest, neg := strings.CutPrefix(digits, "-")
	return api.Dec{Neg: neg, Digits: rest, Exp: exp}
}

// turned is a decimal with its sign turned, nought's too.
func turned(d api.Dec) api.Dec {
	d.Neg = !d.Neg
	return d
}

// told is what both calls answer.
type told struct {
	d    api.Dec
	sure bool
	e    api.Errno
}

// sureOf is a decimal that is surely right.
func sureOf(d api.Dec) told { return told{d: d, sure: true} }

func (a told) String() string {
	digits := a.d.Digits
	if a.d.Neg {
		digits = "-" + digits
	}
	return digits + " e " + strconv.Itoa(a.d.Exp) + ", " + strconv.FormatBool(a.sure) + ", error " + strconv.Itoa(int(a.e))
}

func digitsOf(f api.Form, bits uint64) told {
	d, sure, e := Digits(f, bits)
	return told{d, sure, e}
}

func someDigits(f api.Form, bits uint64, n int) told {
	d, sure, e := Some(f, bits, n)
	return told{d, sure, e}
}

// digitsAre wants this answer of Digits.
func digitsAre(t *testing.T, f api.Form, bits uint64, want told) {
	t.Helper()
	if got := digitsOf(f, bits); got != want {
		t.Errorf("Digits(%v, %#x): %v; want %v", f, bits, got, want)
	}
}

// someAre wants this answer of Some.
func someAre(t *testing.T, f api.Form, bits uint64, n int, want told) {
	t.Helper()
	if got := someDigits(f, bits, n); got != want {
		t.Errorf("Some(%v, %#x, %d): %v; want %v", f, bits, n, got, want)
	}
}

// floor is the greatest whole number that is not above n times 2^exp, and what is left, twice, held against 1: less, as much, more.
func floor(n *big.Int, exp int) (whole *big.Int, isWhole bool, toHalf int) {
	if exp >= 0 {
		return new(big.Int).Lsh(n, uint(exp)), true, -1
	}
	whole = new(big.Int).Rsh(n, uint(-exp))
	rest := new(big.Int).Sub(n, new(big.Int).Lsh(whole, uint(-exp)))
	return whole, rest.Sign() == 0, rest.Lsh(rest, 1).Cmp(new(big.Int).Lsh(big.NewInt(1), uint(-exp)))
}
