package lex

import (
	"math"
	"testing"
	"unicode"
	"unicode/utf8"
)

// Every rune, and numbers that are none.
func TestP113Digit(t *testing.T) {
	worths := digitWorths()
	if len(worths) != 120 {
		t.Fatal("the test has", len(worths), "digits")
	}
	for r := rune(-70000); r <= unicode.MaxRune+70000; r++ {
		want, is := worths[r]
		if d, ok := Digit(r); d != want || ok != is {
			t.Errorf("Digit(%#x): %d, %v", r, d, ok)
		}
	}
	for _, r := range []rune{math.MinInt32, math.MinInt32 + 0x30, math.MinInt32 + 0x35, math.MinInt32 + 0x1d7d0, -0x30, -0x35, math.MaxInt32, math.MaxInt32 - 9} {
		if d, ok := Digit(r); d != 0 || ok {
			t.Errorf("Digit(%d): %d, %v", r, d, ok)
		}
	}
}

// The digits' runes as the chapter numbers them, of one to four bytes, and the runes just below and above each ten.
func TestP113EachScript(t *testing.T) {
	sizes := map[int]bool{}
	for i, nought := range []rune{0x30, 0x660, 0x6f0, 0x7c0, 0x966, 0x9e6, 0xa66, 0xe50, 0x17e0, 0xff10, 0x104a0, 0x1d7ce} {
		for j, r := range []rune(scripts[i]) {
			if r != nought+rune(j) {
				t.Errorf("the test's digit %d of script %d is %#x", j, i, r)
			}
			if d, ok := Digit(r); d != j || !ok {
				t.Errorf("Digit(%#x): %d, %v", r, d, ok)
			}
			readAs(t, "-"+string(r)+"1", asked("-"+string('0'+rune(j))+"1"))
		}
		for _, r := range []rune{nought - 1, nought + 10} {
			if d, ok := Digit(r); d != 0 || ok {
				t.Errorf("Digit(%#x): %d, %v", r, d, ok)
			}
		}
		sizes[utf8.RuneLen(nought)] = true
	}
	if len(sizes) != 4 {
		t.Error("digits of so many sizes:", len(sizes))
	}
}
