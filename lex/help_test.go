package lex

import (
	"errors"
	"math/big"
	"math/rand/v2"
	"regexp"
	"slices"
	"strconv"
	"strings"
	"testing"
	"unicode/utf8"

	"numeral/api"
)

const (
	far  = api.MaxExp
	most = api.MaxText
)

// scripts are the ten digits of each script, written out.
var scripts = []string{
	"0123456789",
	"٠١٢٣٤٥٦٧٨٩",
	"۰۱۲۳۴۵۶۷۸۹",
	"\u07c0\u07c1\u07c2\u07c3\u07c4\u07c5\u07c6\u07c7\u07c8\u07c9",
	"०१२३४५६७८९",
	"০১২৩৪৫৬৭৮৯",
	"੦੧੨੩੪੫੬੭੮੯",
	"๐๑๒๓๔๕๖๗๘๙",
	"០១២៣៤៥៦៧៨៩",
	"０１２３４５６７８９",
	"\U000104a0\U000104a1\U000104a2\U000104a3\U000104a4\U000104a5\U000104a6\U000104a7\U000104a8\U000104a9",
	"\U0001d7ce\U0001d7cf\U0001d7d0\U0001d7d1\U0001d7d2\U0001d7d3\U0001d7d4\U0001d7d5\U0001d7d6\U0001d7d7",
}

// digitWorths is what each digit is worth, by the lists above.
func digitWorths() map[rune]int {
	worths := map[rune]int{}
	for _, script := range scripts {
		for i, r := range []rune(script) {
			worths[r] = i
		}
	}
	return worths
}

// plainDigits is a text with each digit written as 0 to 9, and without its underscores.
func plainDigits(s string) string {
	worths := digitWorths()
	return strings.Map(func(r rune) rune {
		if d, ok := worths[r]; ok {
			return rune('0' + d)
		}
		if r == '_' {
			return -1
		}
		return r
	}, s)
}

// The chapter's grammar, as patterns.
var (
	digitPattern = "[" + strings.Join(scripts, "") + "]"
	rowPattern   = digitPattern + "(?:_?" + digitPattern + ")*"
	sixesPattern = "[0-9A-Fa-f](?:_?[0-9A-Fa-f])*"
	signPattern  = `[-+\x{2212}]?`
	// With three groups each: the digits ahead of the point, those behind it, and those behind it where none stands ahead.
	decimalPattern = "(?:(" + rowPattern + `)(?:\.(` + rowPattern + `)?)?|\.(` + rowPattern + "))"
	hexPattern     = "0[xX](?:(" + sixesPattern + `)(?:\.(` + sixesPattern + `)?)?|\.(` + sixesPattern + "))"
	namePattern    = `(?i:inf|infinity|nan(?:\(([0-9]+)\))?)`
	// With two groups: the sign and the digits.
	powerPattern = "(" + signPattern + ")(" + rowPattern + ")"

	wholeDecimal = regexp.MustCompile("^(" + signPattern + ")" + decimalPattern + "(?:[eE]" + powerPattern + ")?$")
	wholeHex     = regexp.MustCompile("^(" + signPattern + ")" + hexPattern + "(?:[pP]" + powerPattern + ")?$")
	wholeName    = regexp.MustCompile("^(" + signPattern + ")(" + namePattern + ")$")

	nothingYet = regexp.MustCompile("^" + signPattern + "$")
	digitsLack = regexp.MustCompile("^" + signPattern + `(?:\.|0[xX]\.?|` + decimalPattern + "[eE]" + signPattern + "|" + hexPattern + "[pP]" + signPattern + ")$")
	plainLacks = regexp.MustCompile("^" + signPattern + `(?i:nan)\($`)
	notClosed  = regexp.MustCompile("^" + signPattern + `(?i:nan)\(([0-9]+)$`)
)

var tooGreat = new(big.Int).Lsh(big.NewInt(1), 51)

// answer is what Read has to answer.
type answer struct {
	n    api.Number
	code api.Errno
	at   int
}

// asked is what Read has to answer, by the patterns and by whole numbers of any size.
func asked(s string) answer {
	if len(s) > most {
		return answer{code: api.ErrText}
	}
	if n, ok := says(s); ok {
		return answer{n: n}
	}
	if at := strings.Index(s, "(") + 1; at > 0 {
		if m := notClosed.FindStringSubmatch(s[:at+plainsAt(s[at:])]); m != nil && inTens(m[1]).Cmp(tooGreat) >= 0 {
			return answer{code: api.ErrPayload, at: at}
		}
	}
	for at := len(s); at >= 0; at-- {
		if code := stopped(s[:at], s[at:]); code != api.OK {
			return answer{code: code, at: at}
		}
	}
	panic("no fault: " + s)
}

// plainsAt is how many bytes 0 to 9 stand at the beginning.
func plainsAt(s string) int { return len(s) - len(strings.TrimLeft(s, "0123456789")) }

// stopped is the error where a text can't go on as it does; OK, if nothing stops there.
func stopped(ahead, behind string) api.Errno {
	_, isDecimal := decimal(ahead)
	_, isHex := hexes(ahead)
	lacks := digitsLack.MatchString(ahead)
	var code api.Errno
	switch {
	case nothingYet.MatchString(ahead):
		code = api.ErrNumber
	case lacks, plainLacks.MatchString(ahead):
		code = api.ErrDigits
	case isDecimal, isHex, wholeName.MatchString(ahead), notClosed.MatchString(ahead):
		code = api.ErrTail
	default:
		return api.OK
	}
	if strings.HasPrefix(behind, "_") && (code == api.ErrNumber || lacks || isDecimal || isHex) {
		return api.ErrUnder
	}
	if behind != "" && !utf8.ValidString(firstRune(behind)) {
		return api.ErrUTF
	}
	return code
}

// firstRune is the bytes of the first rune, or one broken byte.
func firstRune(s string) string {
	for i := range s {
		if i > 0 {
			return s[:i]
		}
	}
	return s
}

// says is what a whole number's text says.
func says(s string) (api.Number, bool) {
	if n, ok := decimal(s); ok {
		return n, true
	}
	if n, ok := hexes(s); ok {
		return n, true
	}
	m := wholeName.FindStringSubmatch(s)
	if m == nil {
		return api.Number{}, false
	}
	n := api.Number{Kind: api.NumInf, Neg: isMinus(m[1])}
	if m[2][0]|32 == 'n' {
		n.Kind = api.NumNaN
	}
	payload := inTens(m[3])
	n.Payload = payload.Uint64()
	return n, payload.Cmp(tooGreat) < 0
}

func decimal(s string) (api.Number, bool) {
	m := wholeDecimal.FindStringSubmatch(s)
	if m == nil {
		return api.Number{}, false
	}
	digits, exp := parts(m)
	n := api.Number{Kind: api.NumDec, Neg: isMinus(m[1])}
	n.Dec = onlyDec(inTens(digits), exp, n.Neg)
	return n, true
}

func hexes(s string) (api.Number, bool) {
	m := wholeHex.FindStringSubmatch(s)
	if m == nil {
		return api.Number{}, false
	}
	digits, exp := parts(m)
	exp.Add(exp, big.NewInt(-3*int64(len(plainDigits(m[3]+m[4]))))) // one is taken off for each by parts
	n := api.Number{Kind: api.NumHex, Neg: isMinus(m[1])}
	number, _ := new(big.Int).SetString(digits, 16)
	n.Hex = onlyDyadic(number, exp, n.Neg)
	return n, true
}

// parts is all digits of what the patterns found, and the exponent, less one for each digit behind the point.
func parts(m []string) (string, *big.Int) {
	behind := plainDigits(m[3] + m[4])
	exp := inTens(plainDigits(m[6]))
	if isMinus(m[5]) {
		exp.Neg(exp)
	}
	return plainDigits(m[2]) + behind, exp.Sub(exp, big.NewInt(int64(len(behind))))
}

func isMinus(sign string) bool { return sign == "-" || sign == "\u2212" }

func inTens(digits string) *big.Int {
	n, _ := new(big.Int).SetString("0"+digits, 10)
	return n
}

// onlyDec is the one decimal that is worth n times 10 to the power of exp, clipped.
func onlyDec(n, exp *big.Int, neg bool) api.Dec {
	if n.Sign() == 0 {
		return api.Dec{Neg: neg}
	}
	digits := n.String()
	rest := strings.TrimRight(digits, "0")
	return api.Dec{Neg: neg, Digits: rest, Exp: clip(exp, len(digits)-len(rest))}
}

// onlyDyadic is the one dyadic that is worth n times 2 to the power of exp, clipped.
func onlyDyadic(n, exp *big.Int, neg bool) api.Dyadic {
	if n.Sign() == 0 {
		return api.Dyadic{}
	}
	twos := n.TrailingZeroBits()
	return api.Dyadic{Neg: neg, Mant: natOf(new(big.Int).Rsh(n, twos)), Exp: clip(exp, int(twos))}
}

// clip is exp and n, no farther than the ends.
func clip(exp *big.Int, n int) int {
	sum := new(big.Int).Add(exp, big.NewInt(int64(n)))
	end := big.NewInt(far)
	if sum.CmpAbs(end) <= 0 {
		return int(sum.Int64())
	}
	return sum.Sign() * far
}

// natOf goes by bytes, not by any call of the program.
func natOf(n *big.Int) api.Nat {
	b := n.Bytes()
	slices.Reverse(b)
	l := make([]uint32, (len(b)+3)/4)
	for i, x := range b {
		l[i/4] |= uint32(x) << (8 * (i % 4))
	}
	return api.Nat{Limbs: l}
}

// again is a text so many times.
func again(s string, n int) string { return strings.Repeat(s, n) }

// same tells whether two numbers are the same in every field.
func same(a, b api.Number) bool {
	return a.Kind == b.Kind && a.Neg == b.Neg && a.Dec == b.Dec && a.Payload == b.Payload &&
		a.Hex.Neg == b.Hex.Neg && a.Hex.Exp == b.Hex.Exp && slices.Equal(a.Hex.Mant.Limbs, b.Hex.Mant.Limbs)
}

func shortened(s string) string {
	if len(s) > 80 {
		return strconv.Quote(s[:30]) + ".." + strconv.Quote(s[len(s)-30:]) + " (" + strconv.Itoa(len(s)) + " bytes)"
	}
	return strconv.Quote(s)
}

func show(n api.Number) string {
	n.Dec.Digits = shortened(n.Dec.Digits)
	limbs := n.Hex.Mant.Limbs
	mant := strconv.Itoa(len(limbs)) + " limbs"
	if len(limbs) > 0 {
		mant += " from " + strconv.FormatUint(uint64(limbs[0]), 16) + " to " + strconv.FormatUint(uint64(limbs[len(limbs)-1]), 16)
	}
	return "kind " + strconv.Itoa(int(n.Kind)) + " neg " + strconv.FormatBool(n.Neg) +
		" dec " + strconv.FormatBool(n.Dec.Neg) + " " + n.Dec.Digits + " e " + strconv.Itoa(n.Dec.Exp) +
		" hex " + strconv.FormatBool(n.Hex.Neg) + " " + mant + " x 2^" + strconv.Itoa(n.Hex.Exp) +
		" payload " + strconv.FormatUint(n.Payload, 10)
}

// faultOf is the fault that an error is or wraps; the zero one of nil.
func faultOf(t *testing.T, what string, err error) api.Fault {
	t.Helper()
	if err == nil {
		return api.Fault{}
	}
	var f *api.Fault
	if !errors.As(err, &f) || f == nil || f.Code == api.OK {
		t.Errorf("%s: the error %v wraps no fault", what, err)
		return api.Fault{}
	}
	return *f
}

// readAs wants Read to answer so.
func readAs(t *testing.T, s string, want answer) {
	t.Helper()
	n, err := Read(s)
	f := faultOf(t, "Read("+shortened(s)+")", err)
	if !same(n, want.n) || f.Code != want.code || f.At != want.at {
		t.Errorf("Read(%s): %s, error %d at %d; want %s, error %d at %d", shortened(s), show(n), int(f.Code), f.At, show(want.n), int(want.code), want.at)
	}
}

// mustRead is what Read says where no error may come.
func mustRead(t *testing.T, s string) api.Number {
	t.Helper()
	n, err := Read(s)
	if err != nil {
		t.Fatalf("Read(%s): %v", shortened(s), err)
	}
	return n
}

// mustText is Text where no error may come.
func mustText(t *testing.T, n api.Number) string {
	t.Helper()
	s, e := Text(n)
	if e != api.OK {
		t.Fatalf("Text(%s): error %d", show(n), int(e))
	}
	return s
}

// source is the same at every run.
func source(seed uint64) *rand.Rand { return rand.New(rand.NewPCG(seed, 11)) }

func pick(r *rand.Rand, all ...string) string { return all[r.IntN(len(all))] }

// someRow is a row of so many digits, each of a script of its own, with underscores among them.
func someRow(r *rand.Rand, n int) string {
	var b strings.Builder
	for i := range n {
		if i > 0 && r.IntN(6) == 0 {
			b.WriteByte('_')
		}
		script := scripts[0]
		if r.IntN(3) == 0 {
			script = scripts[r.IntN(len(scripts))]
		}
		d := r.IntN(10)
		if r.IntN(3) == 0 {
			d = 0
		}
		b.WriteRune([]rune(script)[d])
	}
	return b.String()
}

// someSixes is a row of so many sixteens.
func someSixes(r *rand.Rand, n int) string {
	var b strings.Builder
	for i := range n {
		if i > 0 && r.IntN(6) == 0 {
			b.WriteByte('_')
		}
		d := "0123456789abcdefABCDEF"[r.IntN(22)]
		if r.IntN(3) == 0 {
			d = '0'
		}
		b.WriteByte(d)
	}
	return b.String()
}

// someText is a number's text.
func someText(r *rand.Rand) string {
	s := pick(r, "", "", "+", "-", "\u2212")
	row, letter := someRow, pick(r, "e", "E")
	switch r.IntN(10) {
	case 0:
		return s + pick(r, "inf", "Inf", "INF", "infinity", "InFiNiTy", "nan", "NaN")
	case 1:
		return s + pick(r, "nan(", "NAN(") + strconv.FormatUint(r.Uint64()>>(13+r.IntN(51)), 10) + ")"
	case 2, 3, 4:
		row, letter = someSixes, pick(r, "p", "P")
		s += pick(r, "0x", "0X")
	}
	switch r.IntN(4) {
	case 0:
		s += row(r, 1+r.IntN(12))
	case 1:
		s += row(r, 1+r.IntN(12)) + "."
	case 2:
		s += row(r, 1+r.IntN(12)) + "." + row(r, 1+r.IntN(12))
	case 3:
		s += "." + row(r, 1+r.IntN(12))
	}
	switch r.IntN(5) {
	case 0, 1:
		s += letter + pick(r, "", "+", "-", "\u2212") + someRow(r, 1+r.IntN(4))
	case 2:
		s += letter + pick(r, "", "+", "-", "\u2212") + strconv.Itoa(far-20+r.IntN(40))
	case 3:
		s += letter + pick(r, "", "+", "-", "\u2212") + someRow(r, 1+r.IntN(60))
	}
	return s
}

// pieces are what texts are put together from, broken ones too.
func pieces() []string {
	return []string{"0", "1", "9", "_", ".", "e", "E", "p", "P", "x", "X", "-", "+", "\u2212", "a", "g", "(", ")", "inf", "inity", "nan", "\u0665", "\U0001d7cf", "\xff", "\xd9", "\ufffd", " "}
}

// spoilt is a text with something put in, taken out or cut off somewhere.
func spoilt(r *rand.Rand, s string) string {
	at := r.IntN(len(s) + 1)
	end := min(at+r.IntN(3), len(s))
	switch r.IntN(4) {
	case 0:
		return s[:at]
	case 1:
		return s[:at] + s[end:]
	}
	return s[:at] + pick(r, pieces()...) + s[end:]
}
