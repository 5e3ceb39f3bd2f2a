package read

import (
	"math"
	"math/big"
	"math/rand/v2"
	"strconv"
	"strings"
	"testing"
	"unicode/utf8"

	"numeral/api"
	"numeral/dec"
	"numeral/lex"
	"numeral/quick"
	"numeral/round"
	"numeral/wide"
)

// dressed is a text of a decimal with its digits from several scripts and with underscores between.
func dressed(r *rand.Rand, s string) string {
	noughts := []rune{'0', 0x660, 0x6f0, 0x7c0, 0x966, 0x9e6, 0xa66, 0xe50, 0x17e0, 0xff10, 0x104a0, 0x1d7ce}
	var b strings.Builder
	digit := false
	for _, c := range s {
		isDigit := '0' <= c && c <= '9'
		if digit && isDigit && r.IntN(8) == 0 {
			b.WriteByte('_')
		}
		if digit = isDigit; isDigit && r.IntN(4) == 0 {
			c += pick(r, noughts...) - '0'
		}
		b.WriteRune(c)
	}
	return b.String()
}

// hexText is n times 2 to the power of exp, in sixteens.
func hexText(r *rand.Rand, n uint64, exp int) string {
	digits := strconv.FormatUint(n, 16)
	behind := r.IntN(len(digits) + 1)
	text := digits[:len(digits)-behind] + "." + digits[len(digits)-behind:]
	return pick(r, "", "-", "+", "\u2212") + pick(r, "0x", "0X") + text + pick(r, "p", "P") + strconv.Itoa(exp+4*behind)
}

// anyText is a number's text of any kind.
func anyText(r *rand.Rand) string {
	sign := pick(r, "", "-", "+", "\u2212")
	switch r.IntN(8) {
	case 0:
		return sign + pick(r, "inf", "INF", "Infinity", "nan", "NaN", "nan(0)", "nan(00)")
	case 1:
		return sign + "nan(" + strconv.FormatUint(r.Uint64N(1<<51)>>r.IntN(51), 10) + ")"
	case 2:
		return sign + pick(r, "0", "0.0", ".000e5", "0x0", "0X.0p-7", "000e-99999999999999999999")
	case 3:
		return sign + strconv.Itoa(r.IntN(1000)) + pick(r, "e1073741824", "e-1073741824", "E+99999999999999999999", "e-99999999999999999999")
	case 4, 5:
		return hexText(r, r.Uint64()>>r.IntN(64), r.IntN(2200)-1100)
	}
	return dressed(r, someNumber(r, someForms()[r.IntN(11)]).someText(r))
}

// reading is what Bits answers, its error as a code.
type reading struct {
	told
	code api.Errno
}

func readingOf(t *testing.T, f api.Form, s string, mode uint8) reading {
	t.Helper()
	bits, flags, err := Bits(f, s, mode)
	if err != nil {
		return reading{told{bits, flags}, faultOf(t, shortened(s), err).Code}
	}
	return reading{told{bits, flags}, api.OK}
}

// W1: of every text of a decimal the float is what the fraction rounds to, where dec.Ratio answers one.
func TestP166W1AsTheFractionRounds(t *testing.T) {
	r := source(70)
	check := func(f api.Form, s string) {
		n, err := lex.Read(s)
		if err != nil {
			t.Fatal(shortened(s), err)
		}
		x, e := dec.Ratio(n.Dec)
		if e != api.OK {
			t.Fatal(shortened(s), int(e))
		}
		for _, mode := range everyMode {
			bits, flags, e := round.Ratio(f, x, n.Neg, mode)
			if e != api.OK {
				t.Fatal(shortened(s), int(e))
			}
			bitsAre(t, f, s, mode, told{bits, flags})
		}
	}
	for _, f := range someForms() {
		for range 500 {
			check(f, dressed(r, someNumber(r, f).someText(r)))
			for _, n := range numberOf(middleOf(f, r.Uint64N(infinite(f))), r.IntN(2) == 0).beside(r.IntN(100)) {
				check(f, n.someText(r))
			}
		}
		for _, s := range []string{"0", "-0", "0e-5", "1e5000", "-1e-5000", "7e-400", again("3", 4000), "-0." + again("0", 3000) + again("6", 3000)} {
			check(f, s)
		}
	}
}

// A text and lex.Text of what it says are read alike.
func TestP166OneText(t *testing.T) {
	r := source(71)
	check := func(f api.Form, s string) {
		n, err := lex.Read(s)
		if err != nil {
			t.Fatal(shortened(s), err)
		}
		one, e := lex.Text(n)
		if e != api.OK {
			t.Fatal(shortened(s), int(e))
		}
		for _, mode := range everyMode {
			got, other := readingOf(t, f, s, mode), readingOf(t, f, one, mode)
			if got != other {
				t.Errorf("%v, mode %d: %s is read as %v, %s as %v", f, mode, shortened(s), got, shortened(one), other)
			}
			bits, flags, e := Number(f, n, mode)
			if got != (reading{told{bits, flags}, e}) {
				t.Errorf("%v, mode %d: %s is read as %v, its number as %#x, flags %d, error %d", f, mode, shortened(s), got, bits, flags, int(e))
			}
		}
	}
	for _, f := range someForms() {
		for range 500 {
			check(f, anyText(r))
			check(f, dressed(r, someNumber(r, f).someText(r)))
		}
	}
}

// place is where a float that is a number stands among all; noughts alike.
func place(f api.Form, bits uint64) int64 {
	if bits >= signBit(f) {
		return -int64(bits - signBit(f))
	}
	return int64(bits)
}

func TestP166UpAndDown(t *testing.T) {
	r := source(72)
	check := func(f api.Form, s string) {
		n, err := lex.Read(s)
		if err != nil {
			t.Fatal(shortened(s), err)
		}
		if n.Kind == api.NumNaN {
			return
		}
		up, down := readingOf(t, f, s, api.Up), readingOf(t, f, s, api.Down)
		high, low := place(f, up.bits), place(f, down.bits)
		exact := (up.flags|down.flags)&inexact == 0
		if high < low || (high == low) != exact || (up.flags^down.flags)&inexact != 0 {
			t.Errorf("%v, %s: by Up %v, by Down %v", f, shortened(s), up, down)
		}
		// Two neighbours lie about what is no float's worth: infinity and the greatest float, too.
		if high > low+1 {
			t.Errorf("%v, %s: by Up %v is far from %v by Down", f, shortened(s), up, down)
		}
		for _, mode := range []uint8{api.Even, api.Away, api.Zero} {
			if at := place(f, readingOf(t, f, s, mode).bits); at < low || at > high {
				t.Errorf("%v, %s: mode %d is not between Down and Up", f, shortened(s), mode)
			}
		}
	}
	for _, f := range someForms() {
		for range 1000 {
			check(f, anyText(r))
			check(f, someNumber(r, f).someText(r))
			check(f, numberOf(worthOf(f, r.Uint64N(infinite(f))), r.IntN(2) == 0).someText(r))
		}
	}
}

// withoutSign is a text without the sign that it may begin with, and whether that was a minus.
func withoutSign(s string) (rest string, minus bool) {
	c, size := utf8.DecodeRuneInString(s)
	switch c {
	case '-', 0x2212:
		return s[size:], true
	case '+':
		return s[size:], false
	}
	return s, false
}

// With a minus put ahead, or taken away, a text is read by the mirrored mode as the float with its sign turned.
func TestP166Mirrored(t *testing.T) {
	r := source(73)
	check := func(f api.Form, s string) {
		rest, minus := withoutSign(s)
		signs := []string{"-", "\u2212"}
		if minus {
			signs = []string{"", "+"}
		}
		for _, sign := range signs {
			for _, mode := range everyMode {
				want := readingOf(t, f, s, mode)
				if want.code == api.OK {
					want.bits ^= signBit(f)
				}
				if got := readingOf(t, f, sign+rest, mirror[mode]); got != want {
					t.Errorf("%v: %s by mode %d is %v; %s by mode %d %v", f, shortened(s), mode, want, shortened(sign+rest), mirror[mode], got)
				}
			}
		}
	}
	for _, f := range someForms() {
		for range 300 {
			check(f, anyText(r))
			check(f, someNumber(r, f).someText(r))
		}
	}
}

// W5: where quick or wide is sure of a decimal, it answers Bits' float by Even.
func TestP166W5SureMeansRight(t *testing.T) {
	r := source(74)
	quicks, wides := 0, 0
	check := func(n number) {
		s := n.someText(r)
		said, err := lex.Read(s)
		if err != nil {
			t.Fatal(shortened(s), err)
		}
		if x, ok := quick.Double(said.Dec); ok {
			quicks++
			if bits, _, err := Bits(double, s, api.Even); bits != math.Float64bits(x) || err != nil {
				t.Errorf("Bits(Double, %s): %#x, %v; quick has %#x", shortened(s), bits, err, math.Float64bits(x))
			}
		}
		if x, ok := quick.Single(said.Dec); ok {
			quicks++
			if bits, _, err := Bits(single, s, api.Even); bits != uint64(math.Float32bits(x)) || err != nil {
				t.Errorf("Bits(Single, %s): %#x, %v; quick has %#x", shortened(s), bits, err, math.Float32bits(x))
			}
		}
		for _, f := range someForms() {
			if want, ok, _ := wide.Bits(f, said.Dec); ok {
				wides++
				if bits, _, err := Bits(f, s, api.Even); bits != want || err != nil {
					t.Errorf("Bits(%v, %s): %#x, %v; wide has %#x", f, shortened(s), bits, err, want)
				}
			}
		}
	}
	for range 1500 {
		check(someNumber(r, someForms()[r.IntN(11)]))
		check(number{r.IntN(2) == 0, someDigits(r, 1+r.IntN(16)), r.IntN(50) - 25})
	}
	if quicks < 1000 || wides < 10000 {
		t.Error("only so often were quick and wide sure:", quicks, wides)
	}
}

// answered is by which way, by which mode, and whether something was lost.
type answered struct {
	way  int
	mode uint8
	lost bool
}

// Each way that answers, answers what is owed, whether another one would come ahead of it or not.
func TestP161P166EveryWayIsRight(t *testing.T) {
	r := source(75)
	count := map[answered]int{}
	check := func(f api.Form, n number) {
		said, err := lex.Read(n.text())
		if err != nil {
			t.Fatal(err)
		}
		for i, w := range ways() {
			for _, mode := range everyMode {
				bits, flags, ok := w.read(f, said, mode)
				if !ok {
					continue
				}
				if want := n.owed(f, mode); want != (told{bits, flags}) {
					t.Errorf("way %d, %v, %s, mode %d: %#x, flags %d; want %v", i+1, f, shortened(n.text()), mode, bits, flags, want)
				}
				count[answered{i + 1, mode, flags != 0}]++
			}
		}
	}
	for _, f := range someForms() {
		one := uint64(bias(f)) << f.Frac
		for range 400 {
			check(f, someNumber(r, f))
			check(f, number{r.IntN(2) == 0, someDigits(r, 1+r.IntN(8)), r.IntN(30) - 15})
			check(f, number{r.IntN(2) == 0, someDigits(r, 1+r.IntN(2)), r.IntN(40)})
			n := numberOf(worthOf(f, one+r.Uint64N(infinite(f)-one)), r.IntN(2) == 0)
			for _, m := range n.beside(1 + r.IntN(5)) {
				check(f, m)
			}
		}
		for _, bits := range edges(f) {
			for _, x := range []*big.Rat{worthOf(f, bits), middleOf(f, bits)} {
				for _, m := range numberOf(x, false).beside(1 + r.IntN(5)) {
					check(f, m)
					check(f, m.turned())
				}
			}
		}
	}
	asked(t, count)
}

// asked wants the quicker ways to answer often, so that they are worth asking: where nothing is lost by all modes, else the first one by Even, and the second one by all but Away. Decimals are not read in sixteens, nor by name.
func asked(t *testing.T, count map[answered]int) {
	t.Helper()
	for way := 1; way <= 5; way++ {
		for _, mode := range everyMode {
			for _, lost := range []bool{false, true} {
				often := way <= 3
				if lost && way == 1 {
					often = mode == api.Even
				}
				if lost && way == 2 {
					often = mode != api.Away
				}
				if n := count[answered{way, mode, lost}]; often && n < 100 || !often && n > 0 {
					t.Errorf("way %d answered %d times by mode %d, something lost: %v", way, n, mode, lost)
				}
			}
		}
	}
}
