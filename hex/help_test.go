package hex

import (
	"errors"
	"math/big"
	"math/bits"
	"math/rand/v2"
	"slices"
	"strconv"
	"strings"
	"testing"

	"numeral/api"
	"numeral/nat"
)

const (
	most = api.MaxText

	inexact   = api.FlagInexact
	overflow  = api.FlagInexact | api.FlagOverflow
	underflow = api.FlagInexact | api.FlagUnderflow
)

// everyMode is all modes that may be, in the order of their numbers.
var everyMode = []uint8{api.Even, api.Away, api.Zero, api.Up, api.Down}

var (
	least  = form(2, 1)
	small  = form(3, 2)
	half   = form(5, 10)
	brain  = form(8, 7)
	single = form(8, 23)
	double = form(11, 52)
)

func form(exp, frac int) api.Form { return api.Form{Exp: exp, Frac: frac} }

// allForms are all that may be.
func allForms() []api.Form {
	var all []api.Form
	for exp := 2; exp <= 11; exp++ {
		for frac := 1; frac <= 52; frac++ {
			all = append(all, form(exp, frac))
		}
	}
	return all
}

// smallForms are so small that all their floats can be gone through. Their bits are any number of sixteens and up to three more.
func smallForms() []api.Form {
	return []api.Form{least, form(2, 2), form(3, 1), small, form(4, 1), form(2, 4), form(3, 4), form(4, 3), form(2, 6), form(5, 4), form(4, 6)}
}

// namedForms are those with names, and those with the fewest and the most bits of each field.
func namedForms() []api.Form {
	return []api.Form{half, brain, single, double, least, form(2, 52), form(11, 1), form(10, 51)}
}

// size is how many bits a form has.
func size(f api.Form) int { return 1 + f.Exp + f.Frac }

// minus is the sign bit alone, minus nought.
func minus(f api.Form) uint64 { return 1 << (f.Exp + f.Frac) }

func infinity(f api.Form) uint64 { return (1<<f.Exp - 1) << f.Frac }

func isFinite(f api.Form, float uint64) bool { return float%minus(f) < infinity(f) }

func isNeg(f api.Form, float uint64) bool { return float >= minus(f) }

// last is the greatest bits of a form: those of what is no number, with a minus.
func last(f api.Form) uint64 { return 2*minus(f) - 1 }

// both is each float without and with its minus, no two alike.
func both(f api.Form, floats ...uint64) []uint64 {
	for _, float := range floats {
		floats = append(floats, float^minus(f))
	}
	slices.Sort(floats)
	return slices.Compact(floats)
}

// edges are the finite floats that the document names, and those beside them.
func edges(f api.Form) []uint64 {
	normal, one := uint64(1)<<f.Frac, uint64(1<<(f.Exp-1)-1)<<f.Frac
	return both(f, 0, 1, 2, 3, normal/2, normal-1, normal, normal+1, 2*normal-1, 2*normal, one-1, one, one+1, one+normal/2, infinity(f)-normal, infinity(f)-2, infinity(f)-1)
}

// notFinite are infinities and what is no number, quiet or not, with payloads and without.
func notFinite(f api.Form) []uint64 {
	inf, quiet := infinity(f), uint64(1)<<(f.Frac-1)
	return both(f, inf, inf+1, inf+quiet, min(inf+quiet+1, minus(f)-1), max(inf+quiet-1, inf+1), minus(f)-1)
}

// everyBits is all bits of a small form.
func everyBits(f api.Form) []uint64 {
	all := make([]uint64, 2*minus(f))
	for i := range all {
		all[i] = uint64(i)
	}
	return all
}

// finite are those of some bits that are finite.
func finite(f api.Form, all []uint64) []uint64 {
	return slices.DeleteFunc(all, func(float uint64) bool { return !isFinite(f, float) })
}

// source is the same at every run.
func source(seed uint64) *rand.Rand { return rand.New(rand.NewPCG(seed, 12)) }

// some is a finite float of either sign; now and then one that has few bits, or is near to nought.
func some(r *rand.Rand, f api.Form) uint64 {
	float := r.Uint64N(infinity(f))
	switch r.IntN(6) {
	case 0, 1:
		float &^= 1<<r.IntN(f.Frac+1) - 1
	case 2:
		float >>= r.IntN(size(f))
	}
	return float + minus(f)*r.Uint64N(2)
}

// someForm is any that may be.
func someForm(r *rand.Rand) api.Form { return form(2+r.IntN(10), 1+r.IntN(52)) }

// parts are what a finite float is worth, as the document's first page says it: n times 2 to the power of exp.
func parts(f api.Form, float uint64) (neg bool, n uint64, exp int) {
	rest := float % minus(f)
	e, n := int(rest>>f.Frac), rest%(1<<f.Frac)
	if e > 0 {
		n += 1 << f.Frac
		e--
	}
	return isNeg(f, float), n, e + 1 - (1<<(f.Exp-1) - 1) - f.Frac
}

// worthOf is the same as a fraction.
func worthOf(f api.Form, float uint64) *big.Rat {
	neg, n, exp := parts(f, float)
	x := new(big.Rat).SetInt(new(big.Int).SetUint64(n))
	x.Mul(x, twoTo(exp))
	if neg {
		x.Neg(x)
	}
	return x
}

// twoTo is for exponents of either sign.
func twoTo(n int) *big.Rat {
	p := new(big.Int).Lsh(big.NewInt(1), uint(max(n, -n)))
	if n < 0 {
		return new(big.Rat).SetFrac(big.NewInt(1), p)
	}
	return new(big.Rat).SetInt(p)
}

// saidBy is what a text in sixteens is worth, as the library has it.
func saidBy(t *testing.T, s string) *big.Rat {
	t.Helper()
	x, ok := new(big.Rat).SetString(s)
	if !ok {
		t.Fatalf("%s is no number", s)
	}
	return x
}

func signText(neg bool) string {
	if neg {
		return "-"
	}
	return ""
}

// printed is the float in sixteens, by the chapter's words.
func printed(f api.Form, float uint64) string {
	neg, n, exp := parts(f, float)
	if n == 0 {
		return signText(neg) + "0x0p0"
	}
	above := bits.Len64(n) - 1
	// What stands behind the first bit, moved up to the 64th.
	digits := strconv.FormatUint(n<<(64-above), 16)
	digits = strings.TrimRight(again("0", 16-len(digits))+digits, "0")
	if digits != "" {
		digits = "." + digits
	}
	return signText(neg) + "0x1" + digits + "p" + strconv.Itoa(exp+above)
}

// placed is the float in sixteens with so many places, by the chapter's words.
func placed(f api.Form, float uint64, places int, mode uint8) string {
	neg, n, exp := parts(f, float)
	if n == 0 {
		return signText(neg) + "0x" + pointed("0"+again("0", places)) + "p0"
	}
	above := bits.Len64(n) - 1
	e := exp + above
	x := new(big.Rat).SetInt(new(big.Int).SetUint64(n))
	x.Mul(x, twoTo(4*places-above))
	whole := wholeOf(x, neg, mode)
	end := new(big.Int).Lsh(big.NewInt(2), uint(4*places))
	if whole.Cmp(end) == 0 {
		whole.Rsh(whole, 1)
		e++
	}
	return signText(neg) + "0x" + pointed(whole.Text(16)) + "p" + strconv.Itoa(e)
}

// pointed has a point behind the first digit, if there are more.
func pointed(digits string) string {
	if len(digits) == 1 {
		return digits
	}
	return digits[:1] + "." + digits[1:]
}

// wholeOf rounds x, which has no sign, but for the one that is told beside it.
func wholeOf(x *big.Rat, neg bool, mode uint8) *big.Int {
	low, rest := new(big.Int).QuoRem(x.Num(), x.Denom(), new(big.Int))
	if rest.Sign() == 0 {
		return low
	}
	order := rest.Lsh(rest, 1).Cmp(x.Denom())
	far := [...]bool{
		api.Even: order > 0 || order == 0 && low.Bit(0) == 1,
		api.Away: order >= 0,
		api.Zero: false,
		api.Up:   !neg,
		api.Down: neg,
	}
	if far[mode] {
		low.Add(low, big.NewInt(1))
	}
	return low
}

// digitsBehind is how many digits a text has behind the point.
func digitsBehind(s string) int {
	head, _, _ := strings.Cut(s, "p")
	_, behind, _ := strings.Cut(head, ".")
	return len(behind)
}

func mustPrint(t *testing.T, f api.Form, float uint64) string {
	t.Helper()
	s, e := Print(f, float)
	if e != api.OK {
		t.Fatalf("Print(%v, %#x): error %d", f, float, int(e))
	}
	return s
}

func mustPlaces(t *testing.T, f api.Form, float uint64, places int, mode uint8) string {
	t.Helper()
	s, e := Places(f, float, places, mode)
	if e != api.OK {
		t.Fatalf("Places(%v, %#x, %d, mode %d): error %d", f, float, places, mode, int(e))
	}
	return s
}

// printedAs wants Print to answer so.
func printedAs(t *testing.T, f api.Form, float uint64, want string) {
	t.Helper()
	if s, e := Print(f, float); s != want || e != api.OK {
		t.Errorf("Print(%v, %#x): %s, error %d; want %s", f, float, shortened(s), int(e), shortened(want))
	}
}

// placedAs wants Places to answer so.
func placedAs(t *testing.T, f api.Form, float uint64, places int, mode uint8, want string) {
	t.Helper()
	if s, e := Places(f, float, places, mode); s != want || e != api.OK {
		t.Errorf("Places(%v, %#x, %d, mode %d): %s, error %d; want %s", f, float, places, mode, shortened(s), int(e), shortened(want))
	}
}

// readAs wants Read to answer so, without an error.
func readAs(t *testing.T, f api.Form, s string, mode uint8, bits uint64, flags uint8) {
	t.Helper()
	if b, fl, err := Read(f, s, mode); b != bits || fl != flags || err != nil {
		t.Errorf("Read(%v, %s, mode %d): %#x, flags %d, %v; want %#x, flags %d", f, shortened(s), mode, b, fl, err, bits, flags)
	}
}

// faultOf is what an error is or wraps.
func faultOf(t *testing.T, err error) *api.Fault {
	t.Helper()
	var fault *api.Fault
	if !errors.As(err, &fault) || fault == nil {
		t.Fatalf("no fault: %v", err)
	}
	return fault
}

// notRead wants Read to answer this fault, and nothing beside it.
func notRead(t *testing.T, f api.Form, s string, mode uint8, code api.Errno, at int) {
	t.Helper()
	b, flags, err := Read(f, s, mode)
	fault := faultOf(t, err)
	if *fault != (api.Fault{Code: code, At: at}) || b != 0 || flags != 0 {
		t.Errorf("Read(%v, %s, mode %d): %#x, flags %d, error %d at %d; want the error %d at %d", f, shortened(s), mode, b, flags, int(fault.Code), fault.At, int(code), at)
	}
}

// loadedAs wants Load to answer so.
func loadedAs(t *testing.T, f api.Form, s string, bits uint64, at int, e api.Errno) {
	t.Helper()
	if b, a, got := Load(f, s); b != bits || a != at || got != e {
		t.Errorf("Load(%v, %s): %#x, at %d, error %d; want %#x, at %d, error %d", f, shortened(s), b, a, int(got), bits, at, int(e))
	}
}

// natOf is a whole number as the program has it.
func natOf(n *big.Int) api.Nat {
	a, _, e := nat.Parse(n.String())
	if e != api.OK {
		panic(e)
	}
	return a
}

func again(s string, n int) string { return strings.Repeat(s, n) }

func shortened(s string) string {
	if len(s) > 100 {
		return strconv.Quote(s[:100]) + " .. " + strconv.Itoa(len(s)) + " bytes"
	}
	return strconv.Quote(s)
}
