package wide

import (
	"math/big"
	"math/rand/v2"
	"strconv"
	"strings"
	"testing"

	"numeral/api"
	"numeral/dec"
	"numeral/near"
)

var (
	tiny   = form(2, 1)
	half   = form(5, 10)
	brain  = form(8, 7)
	single = form(8, 23)
	double = form(11, 52)
)

func form(exp, frac int) api.Form { return api.Form{Exp: exp, Frac: frac} }

// someForms are the ends of what forms may be, those with names, and a few between.
func someForms() []api.Form {
	return []api.Form{tiny, form(2, 52), form(11, 1), double, half, brain, single, form(3, 2), form(4, 3), form(6, 30), form(10, 41)}
}

func bias(f api.Form) int { return 1<<(f.Exp-1) - 1 }

// leastExp is the exponent of two of the least float above nought.
func leastExp(f api.Form) int { return 1 - bias(f) - f.Frac }

func signBit(f api.Form) uint64 { return 1 << (f.Exp + f.Frac) }

// infinite is the bits of infinity; those of the greatest float are one below.
func infinite(f api.Form) uint64 { return (1<<f.Exp - 1) << f.Frac }

// dc is a decimal as it is written; a minus ahead of the digits sets Neg.
func dc(digits string, exp int) api.Dec {
	rest, neg := strings.CutPrefix(digits, "-")
	return api.Dec{Neg: neg, Digits: rest, Exp: exp}
}

// turned is a decimal with its sign turned, nought's too.
func turned(d api.Dec) api.Dec {
	d.Neg = !d.Neg
	return d
}

// text is a decimal as strconv and math/big read it.
func text(d api.Dec) string {
	s := d.Digits
	if s == "" {
		s = "0"
	}
	if d.Neg {
		s = "-" + s
	}
	return s + "e" + strconv.Itoa(d.Exp)
}

// short is a decimal for messages.
func short(d api.Dec) string {
	if n := len(d.Digits); n > 60 {
		return text(api.Dec{Neg: d.Neg, Digits: d.Digits[:30], Exp: d.Exp}) + " (of " + strconv.Itoa(n) + " digits)"
	}
	return text(d)
}

// source is the same at every run.
func source(seed uint64) *rand.Rand { return rand.New(rand.NewPCG(seed, 15)) }

func power10(n int) *big.Int { return new(big.Int).Exp(big.NewInt(10), big.NewInt(int64(n)), nil) }

func up(n *big.Int, by int) *big.Int { return new(big.Int).Lsh(n, uint(by)) }

// worth is n times 2 to the power of exp, n not nought.
type worth struct {
	n   *big.Int
	exp int
}

// tenWords is T and x of 10 to the power of k, and whether T times 2^x is just that, by whole numbers.
func tenWords(k int) (n *big.Int, x int, whole bool) {
	n = power10(max(k, -k))
	size := n.BitLen()
	if k < 0 {
		n, rest := new(big.Int).QuoRem(up(big.NewInt(1), size+127), n, new(big.Int))
		return n, -size - 127, rest.Sign() == 0
	}
	if size <= 128 {
		return up(n, 128-size), size - 128, true
	}
	cut := new(big.Int).Rsh(n, uint(size-128))
	return cut, size - 128, up(cut, size-128).Cmp(n) == 0
}

// endsOf is L and U of a decimal that may be and is not nought, by the chapter's words; false, if k is beyond what is kept.
func endsOf(d api.Dec) (low, high worth, ok bool) {
	digits, k, further := d.Digits, d.Exp, false
	for len(digits) > 19 {
		digits, k, further = digits[:len(digits)-1], k+1, true
	}
	if k < -400 || k > 400 {
		return worth{}, worth{}, false
	}
	one := big.NewInt(1)
	ten, x, whole := tenWords(k)
	m, _ := new(big.Int).SetString(digits, 10)
	low = worth{new(big.Int).Mul(m, ten), x}
	if further {
		m.Add(m, one)
	}
	if !whole {
		ten = new(big.Int).Add(ten, one)
	}
	return low, worth{new(big.Int).Mul(m, ten), x}, true
}

// rounded is the float to which a number above nought is rounded by Even, Up or Down, by the document's first page.
func rounded(f api.Form, w worth, mode uint8) uint64 {
	first := w.exp + w.n.BitLen() - 1
	last := max(leastExp(f), first-f.Frac)
	// steps is how many times 2 to the power of last goes into w; half tells what is left: nothing, or 1, 2, 3: less than half a step, just that, more.
	steps, half := new(big.Int), 0
	if w.exp >= last {
		steps = up(w.n, w.exp-last)
	} else {
		one, rest := up(big.NewInt(1), last-w.exp), new(big.Int)
		steps.QuoRem(w.n, one, rest)
		half = rest.Sign() * (2 + up(rest, 1).Cmp(one))
	}
	farther := map[uint8]bool{
		api.Even: half > 2 || half == 2 && steps.Bit(0) == 1,
		api.Up:   half > 0,
	}
	if farther[mode] {
		steps.Add(steps, big.NewInt(1))
	}
	if last+steps.BitLen()-1 > bias(f) {
		if mode == api.Down {
			return infinite(f) - 1
		}
		return infinite(f)
	}
	// Subnormal floats are their steps; each further exponent has 2^Frac steps of its own.
	return uint64(last-leastExp(f))<<f.Frac + steps.Uint64()
}

// owed is what the chapter's words come to of a decimal that may be: Bits' answer, or Between's. Of Bits low and high are one.
type owed struct {
	low, high uint64
	sure      bool
}

func minus(f api.Form, bits uint64, neg bool) uint64 {
	if neg {
		return bits + signBit(f)
	}
	return bits
}

func owedBits(f api.Form, d api.Dec) owed {
	bits := uint64(0)
	if d.Digits != "" {
		low, high, ok := endsOf(d)
		if !ok {
			return owed{}
		}
		bits = rounded(f, low, api.Even)
		if bits != rounded(f, high, api.Even) {
			return owed{}
		}
	}
	bits = minus(f, bits, d.Neg)
	return owed{bits, bits, true}
}

func owedBetween(t *testing.T, f api.Form, d api.Dec) owed {
	t.Helper()
	a, b := uint64(0), uint64(0)
	if d.Digits != "" {
		low, high, ok := endsOf(d)
		if !ok {
			return owed{}
		}
		a, b = rounded(f, low, api.Down), rounded(f, high, api.Up)
		next, e := near.Up(f, a)
		if e != api.OK {
			t.Fatalf("%v: no float behind %#x", f, a)
		}
		if b != a && b != next {
			return owed{}
		}
	}
	if d.Neg {
		a, b = b, a
	}
	return owed{minus(f, a, d.Neg), minus(f, b, d.Neg), true}
}

func toldBits(t *testing.T, f api.Form, d api.Dec) owed {
	t.Helper()
	bits, sure, e := Bits(f, d)
	if e != api.OK {
		t.Errorf("Bits(%v, %s): error %d", f, short(d), int(e))
	}
	return owed{bits, bits, sure}
}

func toldBetween(t *testing.T, f api.Form, d api.Dec) owed {
	t.Helper()
	low, high, sure, e := Between(f, d)
	if e != api.OK {
		t.Errorf("Between(%v, %s): error %d", f, short(d), int(e))
	}
	return owed{low, high, sure}
}

// holds holds both calls against the chapter's words, of a decimal that may be, with both signs.
func holds(t *testing.T, f api.Form, d api.Dec) {
	t.Helper()
	for _, d := range []api.Dec{d, turned(d)} {
		if got, want := toldBits(t, f, d), owedBits(f, d); got != want {
			t.Errorf("Bits(%v, %s): %#x, %v; want %#x, %v", f, short(d), got.low, got.sure, want.low, want.sure)
		}
		if got, want := toldBetween(t, f, d), owedBetween(t, f, d); got != want {
			t.Errorf("Between(%v, %s): %#x, %#x, %v; want %#x, %#x, %v", f, short(d), got.low, got.high, got.sure, want.low, want.high, want.sure)
		}
	}
}

// bitsIs wants an answer that is written out, and its mirror image of the other sign.
func bitsIs(t *testing.T, f api.Form, d api.Dec, want uint64) {
	t.Helper()
	for _, c := range []struct {
		d    api.Dec
		want uint64
	}{{d, want}, {turned(d), want ^ signBit(f)}} {
		if bits, sure, e := Bits(f, c.d); bits != c.want || !sure || e != api.OK {
			t.Errorf("Bits(%v, %s): %#x, %v, error %d; want %#x", f, short(c.d), bits, sure, int(e), c.want)
		}
	}
}

func bitsUnsure(t *testing.T, f api.Form, d api.Dec) {
	t.Helper()
	for _, d := range []api.Dec{d, turned(d)} {
		if bits, sure, e := Bits(f, d); bits != 0 || sure || e != api.OK {
			t.Errorf("Bits(%v, %s): %#x, %v, error %d; want 0, false", f, short(d), bits, sure, int(e))
		}
	}
}

// betweenIs wants the two floats that are written out, and of the other sign both exchanged.
func betweenIs(t *testing.T, f api.Form, d api.Dec, low, high uint64) {
	t.Helper()
	sign := signBit(f)
	for _, c := range []struct {
		d         api.Dec
		low, high uint64
	}{{d, low, high}, {turned(d), high ^ sign, low ^ sign}} {
		if a, b, sure, e := Between(f, c.d); a != c.low || b != c.high || !sure || e != api.OK {
			t.Errorf("Between(%v, %s): %#x, %#x, %v, error %d; want %#x, %#x", f, short(c.d), a, b, sure, int(e), c.low, c.high)
		}
	}
}

func betweenUnsure(t *testing.T, f api.Form, d api.Dec) {
	t.Helper()
	for _, d := range []api.Dec{d, turned(d)} {
		if a, b, sure, e := Between(f, d); a != 0 || b != 0 || sure || e != api.OK {
			t.Errorf("Between(%v, %s): %#x, %#x, %v, error %d; want 0, 0, false", f, short(d), a, b, sure, int(e))
		}
	}
}

// refused wants an error and nothing else from both calls.
func refused(t *testing.T, f api.Form, d api.Dec, want api.Errno) {
	t.Helper()
	if bits, sure, e := Bits(f, d); bits != 0 || sure || e != want {
		t.Errorf("Bits(%v, %s): %#x, %v, error %d; want the error %d", f, short(d), bits, sure, int(e), int(want))
	}
	if a, b, sure, e := Between(f, d); a != 0 || b != 0 || sure || e != want {
		t.Errorf("Between(%v, %s): %#x, %#x, %v, error %d; want the error %d", f, short(d), a, b, sure, int(e), int(want))
	}
}

// made is the decimal of digits that may have noughts at their ends.
func made(t *testing.T, digits string, exp int) api.Dec {
	t.Helper()
	d, e := dec.Make(false, digits, exp)
	if e != api.OK {
		t.Fatalf("no decimal of %d digits and the exponent %d: error %d", len(digits), exp, int(e))
	}
	return d
}

// digitsOf is so many digits, no nought at either end.
func digitsOf(r *rand.Rand, size int) string {
	b := make([]byte, size)
	for i := range b {
		b[i] = byte('0' + r.IntN(10))
	}
	b[0], b[size-1] = byte('1'+r.IntN(9)), byte('1'+r.IntN(9))
	return string(b)
}

// someSize is how many digits a decimal has here: about 19 above all.
func someSize(r *rand.Rand) int {
	switch r.IntN(4) {
	case 0:
		return 1 + r.IntN(17)
	case 1:
		return 17 + r.IntN(6)
	case 2:
		return 19
	}
	return 20 + r.IntN(60)
}

// some is a decimal of a size that the form's floats have, or somewhat beyond them on either side.
func some(r *rand.Rand, f api.Form) api.Dec {
	size := someSize(r)
	// A power of two has some 0.3 times as many digits.
	least, most := leastExp(f)*3/10-4, bias(f)*3/10+4
	first := least + r.IntN(most-least+1)
	return api.Dec{Neg: r.IntN(2) == 0, Digits: digitsOf(r, size), Exp: first - size}
}

// anywhere is a decimal with any k that is kept, or somewhat beyond.
func anywhere(r *rand.Rand) api.Dec {
	size := someSize(r)
	return api.Dec{Neg: r.IntN(2) == 0, Digits: digitsOf(r, size), Exp: r.IntN(811) - 405 - max(0, size-19)}
}

// worthOf is what a float without a sign is worth; infinity's bits count as if exponents had no upper end.
func worthOf(f api.Form, bits uint64) worth {
	exp, rest := int(bits>>f.Frac), bits%(1<<f.Frac)
	if exp > 0 {
		rest += 1 << f.Frac
		exp--
	}
	return worth{new(big.Int).SetUint64(rest), exp + leastExp(f)}
}

// halfOf is the middle between a float without a sign and the next one.
func halfOf(f api.Form, bits uint64) worth {
	// The steps of the lower float reach up to the next one.
	w := worthOf(f, bits)
	n := up(w.n, 1)
	return worth{n.Add(n, big.NewInt(1)), w.exp - 1}
}

// allDigits is the decimal that is worth w, with all its digits.
func allDigits(t *testing.T, w worth) api.Dec {
	t.Helper()
	n := w.n
	if w.exp >= 0 {
		return made(t, up(n, w.exp).String(), 0)
	}
	five := new(big.Int).Exp(big.NewInt(5), big.NewInt(int64(-w.exp)), nil)
	return made(t, five.Mul(five, n).String(), w.exp)
}

// about is decimals beside one and it itself: with fewer digits, cut and one more, with the last digit changed, and with further digits far behind.
func about(t *testing.T, d api.Dec) []api.Dec {
	t.Helper()
	all := []api.Dec{d}
	for _, size := range []int{1, 4, 9, 16, 17, 18, 19, 20, 21, 30} {
		if size < len(d.Digits) {
			cut, _ := new(big.Int).SetString(d.Digits[:size], 10)
			for _, more := range []int64{-1, 0, 1, 2} {
				n := new(big.Int).Add(cut, big.NewInt(more))
				if n.Sign() > 0 {
					all = append(all, made(t, n.String(), d.Exp+len(d.Digits)-size))
				}
			}
		}
	}
	n, _ := new(big.Int).SetString(d.Digits, 10)
	for _, size := range []int{0, 1, 10, 25} {
		long := new(big.Int).Mul(n, power10(size))
		for _, more := range []int64{-1, 1} {
			beside := new(big.Int).Add(long, big.NewInt(more))
			if beside.Sign() > 0 {
				all = append(all, made(t, beside.String(), d.Exp-size))
			}
		}
	}
	return all
}
