package dec

import (
	"math"
	"math/big"
	"math/rand/v2"
	"slices"
	"strconv"
	"strings"
	"testing"

	"numeral/api"
)

const (
	far  = api.MaxExp
	most = api.MaxText
)

// everyMode is all modes, by their numbers.
var everyMode = []uint8{api.Even, api.Away, api.Zero, api.Up, api.Down}

// dc is a decimal as it is written; a minus ahead of the digits sets Neg.
func dc(digits string, exp int) api.Dec {
	rest, neg := strings.CutPrefix(digits, "-")
	return api.Dec{Neg: neg, Digits: rest, Exp: exp}
}

// again is a text so many times.
func again(s string, n int) string { return strings.Repeat(s, n) }

// turned is a decimal with its sign turned, nought's too.
func turned(d api.Dec) api.Dec {
	d.Neg = !d.Neg
	return d
}

func tenTo(n int) *big.Int { return new(big.Int).Exp(big.NewInt(10), big.NewInt(int64(n)), nil) }

func power(b, n int) *big.Int {
	return new(big.Int).Exp(big.NewInt(int64(b)), big.NewInt(int64(n)), nil)
}

// asInt is a decimal's digits with its sign.
func asInt(d api.Dec) *big.Int {
	n := new(big.Int)
	if d.Digits != "" {
		n.SetString(d.Digits, 10)
	}
	if d.Neg {
		n.Neg(n)
	}
	return n
}

// shifted is n times 10 to the power of exp, for exponents that can be laid out.
func shifted(n *big.Int, exp int) *big.Rat {
	if exp >= 0 {
		return new(big.Rat).SetInt(new(big.Int).Mul(n, tenTo(exp)))
	}
	return new(big.Rat).SetFrac(n, tenTo(-exp))
}

// asRat is what a decimal is worth.
func asRat(d api.Dec) *big.Rat { return shifted(asInt(d), d.Exp) }

// only is the one decimal that is worth n times 10 to the power of exp; nought has the sign neg.
func only(n *big.Int, exp int, neg bool) api.Dec {
	if n.Sign() == 0 {
		return api.Dec{Neg: neg}
	}
	digits := new(big.Int).Abs(n).String()
	rest := strings.TrimRight(digits, "0")
	return api.Dec{Neg: n.Sign() < 0, Digits: rest, Exp: exp + len(digits) - len(rest)}
}

// natOf goes by bytes, not by any call of the program; it drops the sign.
func natOf(n *big.Int) api.Nat {
	b := n.Bytes()
	slices.Reverse(b)
	l := make([]uint32, (len(b)+3)/4)
	for i, x := range b {
		l[i/4] |= uint32(x) << (8 * (i % 4))
	}
	return api.Nat{Limbs: l}
}

// ratioOf is the one form that a fraction has.
func ratioOf(x *big.Rat) api.Ratio {
	return api.Ratio{Neg: x.Sign() < 0, Num: natOf(x.Num()), Den: natOf(x.Denom())}
}

func frac(num, den *big.Int) *big.Rat { return new(big.Rat).SetFrac(num, den) }

func sameRatio(a, b api.Ratio) bool {
	return a.Neg == b.Neg && slices.Equal(a.Num.Limbs, b.Num.Limbs) && slices.Equal(a.Den.Limbs, b.Den.Limbs)
}

func show(d api.Dec) string {
	digits := d.Digits
	if len(digits) > 60 {
		digits = digits[:20] + ".." + digits[len(digits)-20:] + " (" + strconv.Itoa(len(digits)) + " digits)"
	}
	if d.Neg {
		digits = "-" + digits
	}
	return digits + " e " + strconv.Itoa(d.Exp)
}

// wants wants this error, and beside OK this decimal, beside others none.
func wants(t *testing.T, what string, got api.Dec, e api.Errno, want api.Dec, wantErr api.Errno) {
	t.Helper()
	if wantErr != api.OK {
		want = api.Dec{}
	}
	if got != want || e != wantErr {
		t.Errorf("%s: %s, error %d; want %s, error %d", what, show(got), int(e), show(want), int(wantErr))
	}
}

// wantsTold is likewise for calls that tell one thing more.
func wantsTold(t *testing.T, what string, got api.Dec, ok bool, e api.Errno, want api.Dec, wantOK bool, wantErr api.Errno) {
	t.Helper()
	wants(t, what, got, e, want, wantErr)
	if ok != (wantOK && wantErr == api.OK) {
		t.Errorf("%s: told %v", what, ok)
	}
}

// limited is ErrMany of what has too many digits, or an exponent beyond the ends.
func limited(d api.Dec) (api.Dec, api.Errno) {
	if len(d.Digits) > most || d.Exp > far || d.Exp < -far {
		return api.Dec{}, api.ErrMany
	}
	return d, api.OK
}

// farInts is exponents and counts at the ends, beyond them, and at the ends of int.
func farInts() []int {
	return []int{0, 1, -1, 2, -2, far - 1, far, far + 1, 1 - far, -far, -far - 1, 2*far - 1, 2 * far, 2*far + 1, 1 - 2*far, -2 * far, -2*far - 1, 1 << 62, -1 << 62, math.MaxInt - most, math.MaxInt - 1, math.MaxInt, math.MinInt + most, math.MinInt + 1, math.MinInt}
}

// edges is decimals that may be: noughts, few digits and many, near and far exponents, both signs.
func edges() []api.Dec {
	all := []api.Dec{{}}
	for _, digits := range []string{"1", "2", "5", "9", "11", "15", "25", "49", "51", "95", "99", "101", "125", "499", "501", "999", "1001", "123456789", again("9", 40), "1" + again("0", 40) + "1"} {
		for _, exp := range []int{0, 1, -1, -2, -3, -9, -40, -41, 7, 40} {
			all = append(all, dc(digits, exp))
		}
		for _, exp := range []int{far, far - 1, -far, 1 - far} {
			all = append(all, dc(digits, exp))
		}
	}
	for _, d := range all {
		all = append(all, turned(d))
	}
	return all
}

// near is the edges whose exponents can be laid out.
func near() []api.Dec {
	return slices.DeleteFunc(edges(), func(d api.Dec) bool { return max(d.Exp, -d.Exp) > 1000 })
}

// source is the same at every run.
func source(seed uint64) *rand.Rand { return rand.New(rand.NewPCG(seed, 10)) }

// someDigits is so many digits with no nought at either end; runs of noughts and of nines are frequent.
func someDigits(r *rand.Rand, n int) string {
	b := make([]byte, n)
	for i := range b {
		switch r.IntN(6) {
		case 0, 1:
			b[i] = '0' + byte(r.IntN(10))
		case 2:
			b[i] = "0459"[r.IntN(4)]
		default:
			b[i] = '0'
			if i > 0 {
				b[i] = b[i-1]
			}
		}
	}
	for _, i := range []int{0, n - 1} {
		if b[i] == '0' {
			b[i] = '1' + byte(r.IntN(9))
		}
	}
	return string(b)
}

// some is a decimal that may be, sometimes nought.
func some(r *rand.Rand, digits int) api.Dec {
	d := api.Dec{Neg: r.IntN(2) == 0}
	if r.IntN(20) > 0 {
		d.Digits, d.Exp = someDigits(r, 1+r.IntN(digits)), r.IntN(60)-40
	}
	return d
}

// wrong is a decimal that may not be, and how Check refuses it.
type wrong struct {
	what string
	d    api.Dec
	e    api.Errno
}

// wrongDecimals are of each kind that may not be; of those that have several faults too many digits come first.
func wrongDecimals() []wrong {
	all := []wrong{
		{"a nought behind", dc("10", 0), api.ErrDec},
		{"a nought behind, with a sign", dc("-10", 0), api.ErrDec},
		{"a nought ahead", dc("012", 0), api.ErrDec},
		{"a nought alone", dc("0", 0), api.ErrDec},
		{"noughts alone", dc("000", 0), api.ErrDec},
		{"a plus", dc("+1", 0), api.ErrDec},
		{"a minus among the digits", dc("--1", 0), api.ErrDec},
		{"a point", dc("1.5", 0), api.ErrDec},
		{"a letter", dc("1x2", 0), api.ErrDec},
		{"a letter first", dc("x2", 0), api.ErrDec},
		{"a letter last", dc("2x", 0), api.ErrDec},
		{"a blank", dc("1 2", 0), api.ErrDec},
		{"a byte 0", dc("1\x002", 0), api.ErrDec},
		{"a byte 255", dc("1\xff2", 0), api.ErrDec},
		{"another place's digit", dc("\u0661", 0), api.ErrDec},
		{"the byte below 0", dc("1/1", 0), api.ErrDec},
		{"the byte above 9", dc("1:1", 0), api.ErrDec},
		{"nought with an exponent", dc("", 1), api.ErrDec},
		{"minus nought with an exponent", dc("-", -1), api.ErrDec},
		{"nought with a far exponent", dc("", far), api.ErrDec},
		{"MaxText digits, the last one 0", dc(again("1", most-1)+"0", 0), api.ErrDec},
		{"MaxText digits, the first one 0", dc("0"+again("1", most-1), 0), api.ErrDec},
		{"MaxText bytes, a letter among them", dc(again("1", most/2)+"x"+again("1", most/2-1), 0), api.ErrDec},
		{"one digit too many", dc(again("1", most+1), 0), api.ErrMany},
		{"one nought too many", dc(again("0", most+1), 0), api.ErrMany},
		{"one letter too many", dc(again("x", most+1), 0), api.ErrMany},
		{"one digit too many, beyond the end", dc(again("1", most+1), far+1), api.ErrMany},
		{"many digits too many", dc(again("1", 3*most), 0), api.ErrMany},
	}
	for _, exp := range farInts() {
		if max(exp, -exp-1) > far || exp == -far-1 {
			what := "the exponent " + strconv.Itoa(exp)
			all = append(all, wrong{what, dc("1", exp), api.ErrDec}, wrong{what + ", with a sign", dc("-25", exp), api.ErrDec}, wrong{what + " of nought", dc("", exp), api.ErrDec})
		}
	}
	return all
}
