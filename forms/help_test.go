package forms

import (
	"math"
	"math/big"
	"strconv"
	"strings"
	"testing"

	"numeral/api"
)

func form(exp, frac int) api.Form { return api.Form{Exp: exp, Frac: frac} }

// allForms is all forms that may be.
func allForms() []api.Form {
	var all []api.Form
	for exp := 2; exp <= 11; exp++ {
		for frac := 1; frac <= 52; frac++ {
			all = append(all, form(exp, frac))
		}
	}
	return all
}

// smallForms is the forms of so few bits that all of them can be gone through.
func smallForms() []api.Form {
	var small []api.Form
	for _, f := range allForms() {
		if size(f) <= 12 {
			small = append(small, f)
		}
	}
	return small
}

// wrongForms is forms of one more or one less, in either place and in both, and such as lie far off.
func wrongForms() []api.Form {
	wrong := []api.Form{{}, form(1, 0), form(12, 53), form(1, 53), form(12, 0), form(-1, -1)}
	for _, exp := range []int{0, 1, 12, 13, -5, 64, 1<<32 + 5, math.MaxInt, math.MinInt} {
		wrong = append(wrong, form(exp, 1), form(exp, 10), form(exp, 52))
	}
	for _, frac := range []int{0, -1, 53, 54, -10, 64, 1<<32 + 10, math.MaxInt, math.MinInt} {
		wrong = append(wrong, form(2, frac), form(5, frac), form(11, frac))
	}
	return wrong
}

// size is how many bits a form has.
func size(f api.Form) int { return 1 + f.Exp + f.Frac }

// beyond is the first bits that are too many for a form; false, if it has all that there are.
func beyond(f api.Form) (uint64, bool) { return 1 << size(f), size(f) < 64 }

// text is a float's bits as noughts and ones, the highest first: what the tests cut fields from.
func text(f api.Form, bits uint64) string {
	s := strconv.FormatUint(bits, 2)
	return strings.Repeat("0", size(f)-len(s)) + s
}

// bitsOf reads what text writes.
func bitsOf(t *testing.T, s string) uint64 {
	t.Helper()
	n, err := strconv.ParseUint(s, 2, 64)
	if err != nil {
		t.Fatal(err)
	}
	return n
}

// fieldsOf cuts a float's bits by their text.
func fieldsOf(t *testing.T, f api.Form, bits uint64) api.Parts {
	t.Helper()
	s := text(f, bits)
	return api.Parts{
		Neg:  s[0] == '1',
		Exp:  int(bitsOf(t, s[1:1+f.Exp])),
		Frac: bitsOf(t, s[1+f.Exp:]),
	}
}

// classOf tells a class by the text's noughts and ones.
func classOf(f api.Form, bits uint64) uint8 {
	s := text(f, bits)
	exp, frac := s[1:1+f.Exp], s[1+f.Exp:]
	somewhere := strings.Contains(frac, "1")
	switch {
	case !strings.Contains(exp, "0") && somewhere:
		return api.ClassNaN
	case !strings.Contains(exp, "0"):
		return api.ClassInf
	case strings.Contains(exp, "1"):
		return api.ClassNormal
	case somewhere:
		return api.ClassSmall
	}
	return api.ClassZero
}

// twoTo is 2 to the power of n.
func twoTo(n int) *big.Rat {
	p := new(big.Int).Lsh(big.NewInt(1), uint(max(n, -n)))
	x := new(big.Rat).SetInt(p)
	if n < 0 {
		x.Inv(x)
	}
	return x
}

// worth is what a finite float is worth, as the document's first page says it, from the fields' text.
func worth(t *testing.T, f api.Form, bits uint64) *big.Rat {
	t.Helper()
	p := fieldsOf(t, f, bits)
	b := 1<<(f.Exp-1) - 1
	m := new(big.Int).SetUint64(p.Frac)
	e := 1 - b - f.Frac
	if p.Exp > 0 {
		m.Add(m, new(big.Int).Lsh(big.NewInt(1), uint(f.Frac)))
		e = p.Exp - b - f.Frac
	}
	x := new(big.Rat).SetInt(m)
	x.Mul(x, twoTo(e))
	if p.Neg {
		x.Neg(x)
	}
	return x
}

// edges is bits of a form at the ends of its fields, with both signs.
func edges(f api.Form) []uint64 {
	var all []uint64
	last, whole := uint64(1)<<f.Exp-1, uint64(1)<<f.Frac-1
	for _, exp := range []uint64{0, 1, last / 2, last - 1, last} {
		for _, frac := range []uint64{0, 1, whole / 2, whole/2 + 1, whole - 1, whole} {
			low := exp<<f.Frac | frac&whole
			all = append(all, low, low|1<<(size(f)-1))
		}
	}
	return all
}

// everyBits is all bits of a small form, and the edges of a greater one.
func everyBits(f api.Form) []uint64 {
	if size(f) > 12 {
		return edges(f)
	}
	var all []uint64
	for bits := range uint64(1) << size(f) {
		all = append(all, bits)
	}
	return all
}

// mixed is n bits of a form that follow no order, the same ones each time.
func mixed(f api.Form, n int) []uint64 {
	all := make([]uint64, n)
	x := uint64(f.Exp*100 + f.Frac)
	for i := range all {
		x += 0x9e3779b97f4a7c15
		z := (x ^ x>>30) * 0xbf58476d1ce4e5b9
		z = (z ^ z>>27) * 0x94d049bb133111eb
		all[i] = (z ^ z>>31) >> (64 - size(f))
	}
	return all
}
