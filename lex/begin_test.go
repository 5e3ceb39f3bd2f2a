package lex

import (
	"testing"

	"numeral/api"
)

// beginsWith wants Begin to answer so.
func beginsWith(t *testing.T, s string, want api.Number, size int) {
	t.Helper()
	if n, k := Begin(s); !same(n, want) || k != size {
		t.Errorf("Begin(%s): %s, %d bytes; want %s, %d bytes", shortened(s), show(n), k, show(want), size)
	}
}

// longest is what Begin has to answer, by the patterns.
func longest(s string) (api.Number, int) {
	for end := min(len(s), most); end > 0; end-- {
		if n, ok := says(s[:end]); ok {
			return n, end
		}
	}
	return api.Number{}, 0
}

func TestP112EveryShortText(t *testing.T) {
	every("", pieces(), 3, func(s string) {
		n, size := longest(s)
		beginsWith(t, s, n, size)
	})
}

func TestP112TextsThatGoOn(t *testing.T) {
	r := source(2)
	for range 6000 {
		s := someText(r) + pick(r, pieces()...)
		if r.IntN(2) == 0 {
			s = spoilt(r, s)
		}
		n, size := longest(s)
		beginsWith(t, s, n, size)
	}
}

func TestP112WhatEndsWithinANumber(t *testing.T) {
	for s, want := range map[string]struct {
		n    api.Number
		size int
	}{
		"": {}, "+": {}, ".": {}, "-.": {}, ".e5": {}, "_1": {}, "-_1": {}, " 1": {}, "\xff1": {}, "in": {}, "na(1)": {}, "x": {},
		"1.": {decNum(false, "1", 0), 2}, "1.x": {decNum(false, "1", 0), 2}, "1._5": {decNum(false, "1", 0), 2}, "1.e": {decNum(false, "1", 0), 2}, "1..": {decNum(false, "1", 0), 2}, "-1.e5x": {decNum(true, "1", 5), 5},
		"1e": {decNum(false, "1", 0), 1}, "1e-": {decNum(false, "1", 0), 1}, "1e_5": {decNum(false, "1", 0), 1}, "1e5_": {decNum(false, "1", 5), 3}, "1e5.5": {decNum(false, "1", 5), 3}, "1_2_": {decNum(false, "12", 0), 3}, "1__2": {decNum(false, "1", 0), 1}, "1_.5": {decNum(false, "1", 0), 1}, ".5.5": {decNum(false, "5", -1), 2}, "1.5_e5": {decNum(false, "15", -1), 3},
		"-0x": {decNum(true, "", 0), 2}, "0X.": {decNum(false, "", 0), 1}, "0x.p1": {decNum(false, "", 0), 1}, "0x_1": {decNum(false, "", 0), 1}, "0xg": {decNum(false, "", 0), 1}, "\u22120xp1": {decNum(true, "", 0), 4},
		"0x1p": {hexNum(false, 1, 0), 3}, "0x1.p": {hexNum(false, 1, 0), 4}, "-0x1.8p-": {hexNum(true, 3, -1), 6}, "0xa_": {hexNum(false, 5, 1), 3}, "0x1p5_": {hexNum(false, 1, 5), 5}, "0x1p_5": {hexNum(false, 1, 0), 3}, "0x1.g": {hexNum(false, 1, 0), 4},
		"infinity": {inf(false), 8}, "infinit": {inf(false), 3}, "-INFinit": {inf(true), 4}, "infinityinfinity": {inf(false), 8},
		"nan(": {nan(false, 0), 3}, "nan(7": {nan(false, 0), 3}, "nan(7)": {nan(false, 7), 6}, "nan(7))": {nan(false, 7), 6}, "nan()": {nan(false, 0), 3}, "-nan(2251799813685248)": {nan(true, 0), 4}, "nan(2251799813685247)x": {nan(false, 1<<51-1), 21}, "nan(1_0)": {nan(false, 0), 3},
		"1\xff": {decNum(false, "1", 0), 1}, "٣\xd9": {decNum(false, "3", 0), 2},
	} {
		beginsWith(t, s, want.n, want.size)
	}
}

// What stands behind MaxText bytes is not looked at.
func TestP112LongTexts(t *testing.T) {
	beginsWith(t, again("7", most), decNum(false, again("7", most), 0), most)
	beginsWith(t, again("7", most+1), decNum(false, again("7", most), 0), most)
	beginsWith(t, again("7", 3*most), decNum(false, again("7", most), 0), most)
	beginsWith(t, again("7", most)+"x", decNum(false, again("7", most), 0), most)
	beginsWith(t, again("7", most-1)+"xyz", decNum(false, again("7", most-1), 0), most-1)
	beginsWith(t, again("7", most-1)+"_7", decNum(false, again("7", most-1), 0), most-1)
	beginsWith(t, again("7", most-1)+".5", decNum(false, again("7", most-1), 0), most)
	beginsWith(t, again("7", most-2)+"e5", decNum(false, again("7", most-2), 5), most)
	beginsWith(t, again("7", most-2)+"e55", decNum(false, again("7", most-2), 5), most)
	beginsWith(t, again("7", most-1)+"e5", decNum(false, again("7", most-1), 0), most-1)
	beginsWith(t, again("7", most-1)+"\u0665", decNum(false, again("7", most-1), 0), most-1) // the rune is cut off
	beginsWith(t, "nan("+again("0", most-5)+")", nan(false, 0), most)
	beginsWith(t, "nan("+again("0", most-4)+")", nan(false, 0), 3)
	beginsWith(t, again(" ", 2*most), api.Number{}, 0)
	beginsWith(t, "5"+again(" ", 2*most), decNum(false, "5", 0), 1)
}
