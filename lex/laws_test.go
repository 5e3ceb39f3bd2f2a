package lex

import (
	"math/rand/v2"
	"strings"
	"testing"

	"numeral/api"
)

// someNumber is a number that may be, of any kind.
func someNumber(r *rand.Rand) api.Number {
	s := someText(r)
	n, ok := says(s)
	if !ok {
		return nan(false, 0)
	}
	if r.IntN(8) == 0 && n.Dec.Digits != "" {
		n.Dec.Exp = []int{far, -far, far - 1, 1 - far}[r.IntN(4)]
	}
	if r.IntN(8) == 0 && len(n.Hex.Mant.Limbs) > 0 {
		n.Hex.Exp = []int{far, -far, far - 1, 1 - far}[r.IntN(4)]
	}
	return n
}

// Read of Text of n is n.
func TestP115ReadOfText(t *testing.T) {
	r := source(4)
	for range 20000 {
		n := someNumber(r)
		readAs(t, mustText(t, n), answer{n: n})
	}
	for i, mant := range wholes() {
		for _, exp := range []int{0, -7, far, -far} {
			n := hexOf(i%2 == 0, mant, exp)
			want := answer{n: n}
			s := mustText(t, n)
			if len(s) > most {
				want = answer{code: api.ErrText}
			}
			readAs(t, s, want)
		}
	}
	// The longest texts that are still read, and those that no more are.
	for _, n := range []api.Number{decNum(false, again("7", most), 0), decNum(true, again("7", most-1), 0), decNum(false, again("7", most-2), 5), decNum(true, again("7", most-13), -far)} {
		readAs(t, mustText(t, n), answer{n: n})
	}
	for _, n := range []api.Number{decNum(true, again("7", most), 0), decNum(false, again("7", most-1), 5), decNum(true, again("7", most-12), -far)} {
		readAs(t, mustText(t, n), answer{code: api.ErrText})
	}
}

// What Read answers may be, and its one text says the same.
func TestP115WhatReadAnswersMayBe(t *testing.T) {
	r := source(5)
	read := 0
	for range 20000 {
		s := spoilt(r, someText(r))
		n, err := Read(s)
		if err != nil {
			continue
		}
		read++
		if e := Check(n); e != api.OK {
			t.Errorf("Check of Read(%s): %d", shortened(s), int(e))
		}
		readAs(t, mustText(t, n), answer{n: n})
	}
	if read < 2000 {
		t.Error("only so many texts were read:", read)
	}
}

// otherScripts is a text with each digit from a script of its own, and underscores between digits.
func otherScripts(r *rand.Rand, s string) string {
	var b strings.Builder
	wasDigit := false
	for _, c := range s {
		isDigit := c >= '0' && c <= '9'
		if isDigit && wasDigit && r.IntN(3) == 0 {
			b.WriteByte('_')
		}
		if isDigit {
			c = []rune(scripts[r.IntN(len(scripts))])[c-'0']
		}
		b.WriteRune(c)
		wasDigit = isDigit
	}
	return b.String()
}

func TestP115OtherScriptsAndUnderscores(t *testing.T) {
	r := source(6)
	for range 5000 {
		s := pick(r, "", "-", "+") + someDigits(r) + pick(r, "", ".", "."+someDigits(r)) + pick(r, "", "e"+someDigits(r), "e-"+someDigits(r), "E+"+someDigits(r))
		want := answer{n: mustRead(t, s)}
		readAs(t, otherScripts(r, s), want)
		readAs(t, otherScripts(r, s), want)
	}
	// In sixteens underscores may stand too.
	readAs(t, "0xd_e_a_d.b_e_e_fp-1_0", answer{n: mustRead(t, "0xdead.beefp-10")})
}

func someDigits(r *rand.Rand) string {
	b := make([]byte, 1+r.IntN(9))
	for i := range b {
		b[i] = '0' + byte(r.IntN(10))
	}
	return string(b)
}

func TestP115APlusSaysTheSame(t *testing.T) {
	r := source(7)
	for range 5000 {
		s := strings.TrimLeft(someText(r), "+-\u2212")
		want := asked(s)
		readAs(t, "+"+s, answer{n: want.n, code: want.code})
		minus := mustRead(t, "-"+s)
		if other := mustRead(t, "\u2212"+s); !same(other, minus) || !other.Neg {
			t.Errorf("%s with the rune 2212: %s; with a minus: %s", s, show(other), show(minus))
		}
	}
	readAs(t, "1e+5", answer{n: mustRead(t, "1e5")})
	readAs(t, "0x1p+5", answer{n: mustRead(t, "0x1p5")})
}

// What Begin tells of is read by Read alone, and no longer beginning is.
func TestP116BeginAndRead(t *testing.T) {
	r := source(8)
	for range 8000 {
		s := spoilt(r, someText(r)) + pick(r, "", "", pick(r, pieces()...))
		n, size := Begin(s)
		if size > 0 {
			readAs(t, s[:size], answer{n: n})
		} else if !same(n, api.Number{}) {
			t.Errorf("Begin(%s): nothing begins, but %s", shortened(s), show(n))
		}
		for end := size + 1; end <= len(s); end++ {
			if _, err := Read(s[:end]); err == nil {
				t.Errorf("Begin(%s): %d bytes, but %d are read", shortened(s), size, end)
			}
		}
	}
	long := again("7", most-3) + "e12345"
	n, size := Begin(long)
	readAs(t, long[:size], answer{n: n})
	if size != most {
		t.Error("of a long text", size, "bytes begin a number")
	}
}

// A text that is read whole is its own longest beginning.
func TestP116WhatReadReadsBegins(t *testing.T) {
	r := source(9)
	for range 5000 {
		s := someText(r)
		if n, err := Read(s); err == nil {
			beginsWith(t, s, n, len(s))
		}
	}
}
