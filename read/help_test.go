package read

import (
	"errors"
	"math/big"
	"math/rand/v2"
	"slices"
	"strconv"
	"strings"
	"testing"

	"numeral/api"
	"numeral/lex"
)

const (
	most = api.MaxText

	inexact   = api.FlagInexact
	overflow  = api.FlagInexact | api.FlagOverflow
	underflow = api.FlagInexact | api.FlagUnderflow
)

// everyMode is all modes that may be, in the order of their numbers.
var everyMode = []uint8{api.Even, api.Away, api.Zero, api.Up, api.Down}

// mirror is the mirrored mode of each.
var mirror = []uint8{api.Even, api.Away, api.Zero, api.Down, api.Up}

var (
	least  = form(2, 1)
	half   = form(5, 10)
	brain  = form(8, 7)
	single = form(8, 23)
	double = form(11, 52)
)

func form(exp, frac int) api.Form { return api.Form{Exp: exp, Frac: frac} }

// someForms are the ends of what forms may be, those with names, and a few between.
func someForms() []api.Form {
	return []api.Form{least, form(2, 52), form(11, 1), double, half, brain, single, form(3, 2), form(4, 3), form(6, 30), form(10, 41)}
}

// smallForms are so small that all their floats can be gone through.
func smallForms() []api.Form {
	return []api.Form{least, form(2, 2), form(3, 1), form(3, 2), form(4, 3)}
}

func bias(f api.Form) int { return 1<<(f.Exp-1) - 1 }

// leastExp is the exponent of two of the least float above nought.
func leastExp(f api.Form) int { return 1 - bias(f) - f.Frac }

func signBit(f api.Form) uint64 { return 1 << (f.Exp + f.Frac) }

// infinite is the bits of infinity; those of the greatest float are one below.
func infinite(f api.Form) uint64 { return (1<<f.Exp - 1) << f.Frac }

// normal is the bits of the least normal float.
func normal(f api.Form) uint64 { return 1 << f.Frac }

// source is the same at every run.
func source(seed uint64) *rand.Rand { return rand.New(rand.NewPCG(seed, 16)) }

func pick[T any](r *rand.Rand, all ...T) T { return all[r.IntN(len(all))] }

func again(s string, n int) string { return strings.Repeat(s, n) }

func shortened(s string) string {
	if len(s) > 90 {
		return strconv.Quote(s[:40]) + ".." + strconv.Quote(s[len(s)-30:]) + " (" + strconv.Itoa(len(s)) + " bytes)"
	}
	return strconv.Quote(s)
}

// number is digits times 10 to the power of exp; any digits, and an exponent of any size.
type number struct {
	neg    bool
	digits string
	exp    int
}

func (n number) turned() number {
	n.neg = !n.neg
	return n
}

// text is n without a point.
func (n number) text() string {
	s := n.digits + "e" + strconv.Itoa(n.exp)
	if n.neg {
		return "-" + s
	}
	return s
}

// someText is n with the point anywhere, noughts at either end, and a plus or none.
func (n number) someText(r *rand.Rand) string {
	digits, exp := again("0", r.IntN(3))+n.digits, n.exp
	if r.IntN(3) == 0 {
		more := r.IntN(5)
		digits, exp = digits+again("0", more), exp-more
	}
	behind := r.IntN(len(digits) + 1)
	ahead := len(digits) - behind
	if exp += behind; behind > 0 || r.IntN(4) == 0 {
		digits = digits[:ahead] + "." + digits[ahead:]
	}
	if exp != 0 || r.IntN(4) == 0 {
		plus := ""
		if exp >= 0 && r.IntN(3) == 0 {
			plus = "+"
		}
		digits += pick(r, "e", "E") + plus + strconv.Itoa(exp)
	}
	if n.neg {
		return pick(r, "-", "\u2212") + digits
	}
	return pick(r, "", "+") + digits
}

// worth is what n is worth without its sign, as a fraction. What is beyond all floats, or nearer to nought than all, is so as another number, too, with fewer digits.
func (n number) worth() *big.Rat {
	digits := strings.TrimLeft(n.digits, "0")
	exp := n.exp
	if digits == "" {
		return new(big.Rat)
	}
	if size := exp + len(digits); size > 400 || size < -400 {
		digits, exp = "1", 400*(size/max(size, -size))
	}
	x, ok := new(big.Int).SetString(digits, 10)
	if !ok {
		panic("no digits: " + digits)
	}
	ten := new(big.Int).Exp(big.NewInt(10), big.NewInt(int64(max(exp, -exp))), nil)
	if exp < 0 {
		return new(big.Rat).SetFrac(x, ten)
	}
	return new(big.Rat).SetInt(x.Mul(x, ten))
}

// worthOf is what a float without a sign is worth, as the document's first page says it; infinity's bits count as if exponents had no upper end.
func worthOf(f api.Form, bits uint64) *big.Rat {
	exp, rest := int(bits>>f.Frac), bits%(1<<f.Frac)
	if exp > 0 {
		rest += 1 << f.Frac
		exp--
	}
	return times2(new(big.Rat).SetInt(new(big.Int).SetUint64(rest)), exp+leastExp(f))
}

// times2 is x times 2 to the power of n, n of either sign.
func times2(x *big.Rat, n int) *big.Rat {
	p := new(big.Int).Lsh(big.NewInt(1), uint(max(n, -n)))
	two := new(big.Rat).SetInt(p)
	if n < 0 {
		two.Inv(two)
	}
	return two.Mul(x, two)
}

// middleOf is just between a float without a sign and the next one.
func middleOf(f api.Form, bits uint64) *big.Rat {
	x := new(big.Rat).Add(worthOf(f, bits), worthOf(f, bits+1))
	return times2(x, -1)
}

// numberOf is what x, whose lower number is a power of two, is as digits.
func numberOf(x *big.Rat, neg bool) number {
	twos := x.Denom().BitLen() - 1
	n := new(big.Int).Exp(big.NewInt(5), big.NewInt(int64(twos)), nil)
	return number{neg, n.Mul(n, x.Num()).String(), -twos}
}

// beside is n, and what lies beside it by 1 at a place so far behind its last digit: farther from nought, and, but for nought itself, nearer to it.
func (n number) beside(far int) []number {
	all := []number{n}
	for _, by := range []int64{1, -1} {
		x, _ := new(big.Int).SetString(n.digits+again("0", far), 10)
		if x.Add(x, big.NewInt(by)).Sign() >= 0 {
			all = append(all, number{n.neg, x.String(), n.exp - far})
		}
	}
	return all
}

// steps is x, above nought, as so many times 2 to the power of last, rounded by a mode, and whether that is x. neg is whether a minus stands ahead of x.
func steps(x *big.Rat, last int, neg bool, mode uint8) (n *big.Int, whole bool) {
	y := times2(x, -last)
	n, rest := new(big.Int).QuoRem(y.Num(), y.Denom(), new(big.Int))
	if rest.Sign() == 0 {
		return n, true
	}
	order := rest.Lsh(rest, 1).Cmp(y.Denom())
	farther := map[uint8]bool{
		api.Even: order > 0 || order == 0 && n.Bit(0) == 1,
		api.Away: order >= 0,
		api.Zero: false,
		api.Up:   !neg,
		api.Down: neg,
	}
	if farther[mode] {
		n.Add(n, big.NewInt(1))
	}
	return n, false
}

// told is an answer: bits and flags.
type told struct {
	bits  uint64
	flags uint8
}

// rounded is the float to which x is rounded, without its sign that neg tells, by the document's first page.
func rounded(f api.Form, x *big.Rat, neg bool, mode uint8) told {
	a := roundedSize(f, x, neg, mode)
	if neg {
		a.bits += signBit(f)
	}
	return a
}

func roundedSize(f api.Form, x *big.Rat, neg bool, mode uint8) told {
	if x.Sign() == 0 {
		return told{}
	}
	first := x.Num().BitLen() - x.Denom().BitLen()
	if times2(big.NewRat(1, 1), first).Cmp(x) > 0 {
		first--
	}
	last := max(leastExp(f), first-f.Frac)
	n, whole := steps(x, last, neg, mode)
	// Bits go up by one with each step, wherever the steps grow.
	bits := n.Add(n, new(big.Int).Lsh(big.NewInt(int64(last-leastExp(f))), uint(f.Frac)))
	if bits.Cmp(new(big.Int).SetUint64(infinite(f))) >= 0 {
		if mode == api.Zero || mode == api.Up && neg || mode == api.Down && !neg {
			return told{infinite(f) - 1, overflow}
		}
		return told{infinite(f), overflow}
	}
	flags := uint8(0)
	if !whole {
		flags = inexact
		free, _ := steps(x, first-f.Frac, neg, mode)
		if times2(new(big.Rat).SetInt(free), first-f.Frac).Cmp(worthOf(f, normal(f))) < 0 {
			flags = underflow
		}
	}
	return told{bits.Uint64(), flags}
}

// owed is what is owed of n by a mode.
func (n number) owed(f api.Form, mode uint8) told { return rounded(f, n.worth(), n.neg, mode) }

// bitsAre wants Bits to answer so, without an error.
func bitsAre(t *testing.T, f api.Form, s string, mode uint8, want told) {
	t.Helper()
	if bits, flags, err := Bits(f, s, mode); bits != want.bits || flags != want.flags || err != nil {
		t.Errorf("Bits(%v, %s, mode %d): %#x, flags %d, %v; want %#x, flags %d", f, shortened(s), mode, bits, flags, err, want.bits, want.flags)
	}
}

// numberIs wants Number to answer so.
func numberIs(t *testing.T, f api.Form, n api.Number, mode uint8, want told, e api.Errno) {
	t.Helper()
	if bits, flags, got := Number(f, n, mode); bits != want.bits || flags != want.flags || got != e {
		t.Errorf("Number(%v, %s, mode %d): %#x, flags %d, error %d; want %#x, flags %d, error %d", f, show(n), mode, bits, flags, int(got), want.bits, want.flags, int(e))
	}
}

// rightly wants n to be read as is owed, by every mode, as some text and as a number.
func (n number) rightly(t *testing.T, r *rand.Rand, f api.Form) {
	t.Helper()
	s := n.someText(r)
	said, err := lex.Read(s)
	if err != nil {
		t.Fatalf("lex.Read(%s): %v", shortened(s), err)
	}
	for _, mode := range everyMode {
		want := n.owed(f, mode)
		bitsAre(t, f, s, mode, want)
		numberIs(t, f, said, mode, want, api.OK)
	}
}

// both is rightly of n and of n with the other sign.
func (n number) both(t *testing.T, r *rand.Rand, f api.Form) {
	t.Helper()
	n.rightly(t, r, f)
	n.turned().rightly(t, r, f)
}

// faultOf is what an error is or wraps.
func faultOf(t *testing.T, what string, err error) *api.Fault {
	t.Helper()
	var fault *api.Fault
	if !errors.As(err, &fault) || fault == nil {
		t.Fatalf("%s: no fault: %v", what, err)
	}
	if err.Error() == "" {
		t.Errorf("%s: the error tells nothing", what)
	}
	return fault
}

// isFault wants an error to be or wrap this fault.
func isFault(t *testing.T, what string, err error, code api.Errno, at int) {
	t.Helper()
	if fault := faultOf(t, what, err); *fault != (api.Fault{Code: code, At: at}) {
		t.Errorf("%s: error %d at %d; want the error %d at %d", what, int(fault.Code), fault.At, int(code), at)
	}
}

// bitsRefuse wants Bits to answer this fault, and nothing beside it.
func bitsRefuse(t *testing.T, f api.Form, s string, mode uint8, code api.Errno, at int) {
	t.Helper()
	what := "Bits(" + formText(f) + ", " + shortened(s) + ", mode " + strconv.Itoa(int(mode)) + ")"
	bits, flags, err := Bits(f, s, mode)
	isFault(t, what, err, code, at)
	if bits != 0 || flags != 0 {
		t.Errorf("%s: %#x and flags %d beside an error", what, bits, flags)
	}
}

// wayRefuses wants Way to answer this fault, and nothing beside it; exactRefuses likewise.
func wayRefuses(t *testing.T, f api.Form, s string, code api.Errno, at int) {
	t.Helper()
	what := "Way(" + formText(f) + ", " + shortened(s) + ")"
	way, err := Way(f, s)
	isFault(t, what, err, code, at)
	if way != 0 {
		t.Errorf("%s: %d beside an error", what, way)
	}
}

func exactRefuses(t *testing.T, f api.Form, s string, code api.Errno, at int) {
	t.Helper()
	what := "Exact(" + formText(f) + ", " + shortened(s) + ")"
	exact, err := Exact(f, s)
	isFault(t, what, err, code, at)
	if exact {
		t.Errorf("%s: true beside an error", what)
	}
}

// nativeRefuse wants Double and Single to answer this fault, and nothing beside it.
func nativeRefuse(t *testing.T, s string, code api.Errno, at int) {
	t.Helper()
	x, err := Double(s)
	isFault(t, "Double("+shortened(s)+")", err, code, at)
	y, err := Single(s)
	isFault(t, "Single("+shortened(s)+")", err, code, at)
	if x != 0 || y != 0 {
		t.Errorf("Double, Single(%s): %v and %v beside an error", shortened(s), x, y)
	}
}

func formText(f api.Form) string {
	return "{" + strconv.Itoa(f.Exp) + ", " + strconv.Itoa(f.Frac) + "}"
}

func show(n api.Number) string {
	return "kind " + strconv.Itoa(int(n.Kind)) + " neg " + strconv.FormatBool(n.Neg) + " dec " + shortened(n.Dec.Digits) + " e " + strconv.Itoa(n.Dec.Exp) +
		" hex of " + strconv.Itoa(len(n.Hex.Mant.Limbs)) + " limbs x 2^" + strconv.Itoa(n.Hex.Exp) + " payload " + strconv.FormatUint(n.Payload, 10)
}

// natOf goes by bytes, not by any call of the program.
func natOf(n *big.Int) api.Nat {
	b := n.Bytes()
	slices.Reverse(b)
	l := make([]uint32, (len(b)+3)/4)
	for i, x := range b {
		l[i/4] |= uint32(x) << (8 * (i % 4))
	}
	return api.Nat{Limbs: l}
}

// dyadic is n, not nought, times 2 to the power of exp, as the program has it.
func dyadic(neg bool, n *big.Int, exp int) api.Dyadic {
	twos := n.TrailingZeroBits()
	return api.Dyadic{Neg: neg, Mant: natOf(new(big.Int).Rsh(n, twos)), Exp: exp + int(twos)}
}

// decimal is a number in tens as lex says it; a minus ahead of the digits sets Neg.
func decimal(digits string, exp int) api.Number {
	rest, neg := strings.CutPrefix(digits, "-")
	return api.Number{Kind: api.NumDec, Neg: neg, Dec: api.Dec{Neg: neg, Digits: rest, Exp: exp}}
}

// someDigits are so many, the first and the last of them not 0.
func someDigits(r *rand.Rand, count int) string {
	b := make([]byte, count)
	for i := range b {
		b[i] = byte('0' + r.IntN(10))
	}
	b[0], b[count-1] = byte('1'+r.IntN(9)), byte('1'+r.IntN(9))
	if r.IntN(4) == 0 {
		for i := 1; i < count-1; i++ {
			b[i] = '0'
		}
	}
	return string(b)
}

// someNumber is about as great as some float of the form, with few digits or many.
func someNumber(r *rand.Rand, f api.Form) number {
	count := 1 + r.IntN(22)
	if r.IntN(6) == 0 {
		count += r.IntN(60)
	}
	low, high := leastExp(f)*30103/100000-3, (bias(f)+1)*30103/100000+3
	first := low + r.IntN(high-low+1)
	return number{r.IntN(2) == 0, someDigits(r, count), first - count}
}
