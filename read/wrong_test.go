package read

import (
	"errors"
	"strings"
	"testing"

	"numeral/api"
	"numeral/lex"
)

// someTexts are of every kind: such as are read, and such as are not.
func someTexts() []string {
	return []string{"", "x", "1", "-0", "0.1", "0x1p0", "1x", "1_", "inf", "nan", "nan(512)", "nan(2251799813685247)", "nan(2251799813685248)", "\xff", again("1", most), again("1", most+1)}
}

// A form that may not be comes ahead of a wrong mode and of whatever is wrong with the text.
func TestP162P164P165WrongForms(t *testing.T) {
	for _, f := range wrongForms() {
		for _, s := range someTexts() {
			for _, mode := range append(wrongModes(), everyMode...) {
				bitsRefuse(t, f, s, mode, api.ErrForm, 0)
			}
			wayRefuses(t, f, s, api.ErrForm, 0)
			exactRefuses(t, f, s, api.ErrForm, 0)
		}
	}
}

// A wrong mode comes ahead of the text.
func TestP162WrongModes(t *testing.T) {
	for mode := int(api.Down) + 1; mode < 256; mode++ {
		for _, s := range someTexts() {
			bitsRefuse(t, half, s, uint8(mode), api.ErrMode, 0)
		}
	}
	for _, f := range someForms() {
		bitsRefuse(t, f, "1", api.Down+1, api.ErrMode, 0)
	}
}

// everyCallRefuses wants all four calls of texts to tell this, whatever form and mode.
func everyCallRefuses(t *testing.T, s string, code api.Errno, at int) {
	t.Helper()
	for _, f := range someForms() {
		for _, mode := range everyMode {
			bitsRefuse(t, f, s, mode, code, at)
		}
		wayRefuses(t, f, s, code, at)
		exactRefuses(t, f, s, code, at)
	}
	nativeRefuse(t, s, code, at)
}

func TestP162P163P164P165WhatLexTells(t *testing.T) {
	for _, c := range []struct {
		code  api.Errno
		texts map[string]int
	}{
		{api.ErrNumber, map[string]int{"": 0, "-": 1, "+-1": 1, "x": 0, "e5": 0, " 1": 0, "\u2212": 3}},
		{api.ErrDigits, map[string]int{".": 1, "-.e5": 2, "1e": 2, "1e+": 3, "1ex": 2, "0x": 2, "0x.p1": 3, "0x1p": 4, "nan(": 4, "nan()": 4}},
		{api.ErrUnder, map[string]int{"_1": 0, "1__0": 1, "1_": 1, "1_.5": 1, "1._5": 2, "1e_5": 2, "0x_1": 2, "0xa_": 3}},
		{api.ErrTail, map[string]int{"1x": 1, "1.5.": 3, "1e5.5": 3, "infinit": 3, "nan(7": 5, "nan7": 3, "0x1g": 3, "1 ": 1, "0.1.2": 3, "\u06651 ": 3}},
		{api.ErrUTF, map[string]int{"\xff": 0, "1\xff": 1, "1e\xff": 2, "-\xc3\x28": 1}},
		{api.ErrPayload, map[string]int{"nan(2251799813685248)": 4, "-nan(99999999999999999999)": 5}},
		{api.ErrText, map[string]int{again("1", most+1): 0, again("x", most+1): 0, again("\xff", 2*most): 0}},
	} {
		for s, at := range c.texts {
			everyCallRefuses(t, s, c.code, at)
		}
	}
}

// Of each text that is spoilt somewhere, just what lex tells.
func TestP162P164P165AsLexTells(t *testing.T) {
	r := source(80)
	refused := 0
	for range 8000 {
		s := anyText(r)
		at := r.IntN(len(s) + 1)
		s = s[:at] + pick(r, "", "_", ".", "x", "e", "-", "g", "\xff", "0", " ", "(", "\u0661") + s[min(len(s), at+r.IntN(2)):]
		_, err := lex.Read(s)
		if err == nil {
			continue
		}
		refused++
		fault := faultOf(t, "lex.Read("+shortened(s)+")", err)
		f := someForms()[r.IntN(11)]
		bitsRefuse(t, f, s, uint8(r.IntN(5)), fault.Code, fault.At)
		wayRefuses(t, f, s, fault.Code, fault.At)
		exactRefuses(t, f, s, fault.Code, fault.At)
		nativeRefuse(t, s, fault.Code, fault.At)
	}
	if refused < 1500 {
		t.Error("only so many texts were refused:", refused)
	}
}

// A payload that the form has no room for is told last, at 0 and whatever sign stands ahead; Way takes it as any other.
func TestP162P165Payloads(t *testing.T) {
	for _, c := range []struct {
		f     api.Form
		texts []string
	}{
		{half, []string{"nan(512)", "-nan(512)", "+NaN(513)", "\u2212nan(00512)", "nan(2251799813685247)"}},
		{least, []string{"nan(1)", "-nan(1)", "nan(512)"}},
		{single, []string{"nan(4194304)", "-nan(4194304)"}},
		{form(11, 51), []string{"nan(1125899906842624)"}},
	} {
		for _, s := range c.texts {
			for _, mode := range everyMode {
				bitsRefuse(t, c.f, s, mode, api.ErrPayload, 0)
			}
			exactRefuses(t, c.f, s, api.ErrPayload, 0)
			wayIs(t, c.f, s, 5)
		}
	}
	bitsAnswer(t, half, "nan(511)", alike(0x7fff))
	bitsAnswer(t, least, "nan(0)", alike(7))
	bitsAnswer(t, single, "nan(4194303)", alike(0x7fffffff))
	bitsAnswer(t, double, "nan(2251799813685247)", alike(0x7fffffffffffffff))
	bitsAnswer(t, form(11, 51), "nan(1125899906842623)", alike(1<<62-1))
}

// Errors tell people why, each in words of its own.
func TestP162ErrorsTellWhy(t *testing.T) {
	seen := map[string]bool{}
	for _, err := range []error{errorOf(form(1, 5), "1", 0), errorOf(half, "1", 9), errorOf(half, "nan(512)", 0), errorOf(half, "1x", 0), errorOf(half, "x", 0)} {
		text := err.Error()
		if seen[text] || !strings.HasPrefix(text, "numeral: ") {
			t.Errorf("an error tells %q", text)
		}
		seen[text] = true
	}
}

func errorOf(f api.Form, s string, mode uint8) error {
	_, _, err := Bits(f, s, mode)
	return err
}

// An answer comes with an error that is nil itself.
func TestP162P163P164P165NoErrorIsNil(t *testing.T) {
	for _, s := range []string{"1", "-0", "0.1", "0x1p3", "inf", "nan", "nan(0)", "1e999"} {
		_, _, one := Bits(half, s, api.Even)
		_, two := Double(s)
		_, three := Single(s)
		_, four := Way(half, s)
		_, five := Exact(half, s)
		if err := errors.Join(one, two, three, four, five); err != nil || one != nil {
			t.Errorf("%s: %v", s, err)
		}
	}
}
