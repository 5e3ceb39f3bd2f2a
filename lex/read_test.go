package lex

import (
	"errors"
	"strconv"
	"strings"
	"testing"

	"numeral/api"
)

// every hands over each text of so many pieces behind a beginning.
func every(begin string, pieces []string, n int, do func(s string)) {
	do(begin)
	if n == 0 {
		return
	}
	for _, p := range pieces {
		every(begin+p, pieces, n-1, do)
	}
}

func TestP111EveryShortText(t *testing.T) {
	every("", pieces(), 3, func(s string) { readAs(t, s, asked(s)) })
}

func TestP111EveryShortEnd(t *testing.T) {
	few := []string{"0", "1", "a", "_", ".", "e", "p", "-", "\u2212", "\u0665", ")", "\xff"}
	for _, begin := range []string{"-", "1_", "12.5", "1.", ".", "1e", "1.5E-", "0x", "0X.", "-0x1", "0x1.", "0xa_b", "0x1p", "0x1.8P+", "nan(", "-nan(7", "inf"} {
		every(begin, few, 3, func(s string) { readAs(t, s, asked(s)) })
	}
}

func TestP111TextsAndSpoiltOnes(t *testing.T) {
	r := source(1)
	for range 8000 {
		s := someText(r)
		readAs(t, s, asked(s))
		for range 2 {
			s = spoilt(r, s)
			readAs(t, s, asked(s))
		}
	}
}

func TestP111Decimals(t *testing.T) {
	for s, want := range map[string]api.Number{
		"0": decNum(false, "", 0), "-0": decNum(true, "", 0), "+0": decNum(false, "", 0), "\u22120": decNum(true, "", 0), "00.000e-5": decNum(false, "", 0), "-.0": decNum(true, "", 0),
		"1": decNum(false, "1", 0), "-1": decNum(true, "1", 0), "+1": decNum(false, "1", 0), "10": decNum(false, "1", 1), "0.10": decNum(false, "1", -1),
		"00120.03400": decNum(false, "120034", -3), "1.e5": decNum(false, "1", 5), ".5E+3": decNum(false, "5", 2), "1e\u22125": decNum(false, "1", -5), "1e-0": decNum(false, "1", 0),
		"1e0_0_5": decNum(false, "1", 5), "1_2_3.4_5": decNum(false, "12345", -2), "-9007199254740993": decNum(true, "9007199254740993", 0),
		"1e00000000000000000000000000005": decNum(false, "1", 5), "2.50e-00000000000000000000000000005": decNum(false, "25", -6),
		"٣.١٤e-٢": decNum(false, "314", -4), "１２３": decNum(false, "123", 0), "1२\U000104a3๔.\U0001d7d3": decNum(false, "12345", -1),
		"٠": decNum(false, "", 0), "0٠0": decNum(false, "", 0), "-٠٧": decNum(true, "7", 0),
	} {
		readAs(t, s, answer{n: want})
	}
}

func TestP111ExponentsWithoutEnd(t *testing.T) {
	for s, want := range map[string]api.Number{
		"1e1073741824": decNum(false, "1", far), "1e1073741823": decNum(false, "1", far-1), "1e1073741825": decNum(false, "1", far),
		"1e-1073741824": decNum(false, "1", -far), "1e-1073741823": decNum(false, "1", 1-far), "-1e-1073741825": decNum(true, "1", -far),
		// clipped only behind the noughts that are cut off, or not, as these move the exponent back
		"10e1073741823": decNum(false, "1", far), "100e1073741823": decNum(false, "1", far), "10e1073741824": decNum(false, "1", far),
		"10e-1073741825": decNum(false, "1", -far), "100e-1073741825": decNum(false, "1", 1-far), "10e-1073741826": decNum(false, "1", -far),
		"0.1e1073741825": decNum(false, "1", far), "0.01e1073741825": decNum(false, "1", far-1), "0.10e1073741826": decNum(false, "1", far), "1.1e-1073741824": decNum(false, "11", -far), "1.1e-1073741823": decNum(false, "11", -far),
		"12.0e1073741824": decNum(false, "12", far), "0e1073741825": decNum(false, "", 0), "-0.0e-1073741825": decNum(true, "", 0),
		"0x1p1073741824": hexNum(false, 1, far), "0x1p1073741825": hexNum(false, 1, far), "0x1p1073741823": hexNum(false, 1, far-1),
		"-0x1p-1073741824": hexNum(true, 1, -far), "0x1p-1073741825": hexNum(false, 1, -far), "0x1p-1073741823": hexNum(false, 1, 1-far),
		"0x2p1073741823": hexNum(false, 1, far), "0x6p1073741824": hexNum(false, 3, far), "0x2p-1073741825": hexNum(false, 1, -far), "0x4p-1073741825": hexNum(false, 1, 1-far), "0x10p-1073741829": hexNum(false, 1, -far),
		"0x.1p1073741828": hexNum(false, 1, far), "0x.1p1073741829": hexNum(false, 1, far), "0x.1p1073741827": hexNum(false, 1, far-1), "0x1.1p-1073741820": hexNum(false, 17, -far), "0x1.1p-1073741819": hexNum(false, 17, 1-far), "0x1.1p-1073741821": hexNum(false, 17, -far),
		"0x0p99999999999999999999": hexNum(false, 0, 0), "-0x.0p-99999999999999999999": hexNum(true, 0, 0),
		"0x3p99999999999999999999": hexNum(false, 3, far), "-0x3p\u221299999999999999999999": hexNum(true, 3, -far),
		// what a number of 64 or of 32 bits would have of it is small
		"1e18446744073709551617": decNum(false, "1", far), "1e-18446744073709551617": decNum(false, "1", -far), "1e4294967297": decNum(false, "1", far), "1e9223372036854775808": decNum(false, "1", far), "1e-9223372036854775809": decNum(false, "1", -far),
		"0x1p18446744073709551617": hexNum(false, 1, far), "0x1p-9223372036854775809": hexNum(false, 1, -far),
	} {
		readAs(t, s, answer{n: want})
	}
	for _, exp := range []string{again("9", 20), again("9", 60000), again("0", 60000) + "7", "1" + again("0", 30000)} {
		for _, begin := range []string{"1e", "1e-", "-12.50e+", "0x3p", "0x.18p-", "0e", "-0x0p-"} {
			readAs(t, begin+exp, asked(begin+exp))
		}
	}
}

// The longest texts, whose digits move the exponent as far as digits can.
func TestP111LongTexts(t *testing.T) {
	for _, s := range []string{
		again("7", most), "." + again("7", most-1), "-" + again("0", most-1), "1" + again("0", most-1), "." + again("0", most-2) + "1",
		"1" + again("0", most-30) + "e-1073807390", "1" + again("0", most-30) + "e1073741000", "." + again("0", most-30) + "1e1073807300", "." + again("0", most-30) + "1e-1073741000",
		"1" + again("0", most-100) + "e-" + again("9", 90), "." + again("0", most-100) + "1e" + again("9", 90),
		"0x" + again("f", most-2), "-0x." + again("f", most-4), "0x1" + again("0", most-3), "0x" + again("0", most-3) + "8", "0x." + again("0", most-4) + "1", "0x" + again("0", most-2),
		"0x1" + again("0", most-40) + "p-1074003900", "0x." + again("0", most-40) + "1p1074003800", "0x8" + again("0", most-40) + "p1073741000", "0x." + again("0", most-40) + "1p-1073741000",
		"0x1" + again("0", most-100) + "p-" + again("9", 90), "0x." + again("0", most-100) + "1p" + again("9", 90),
		again("\U0001d7cf", most/4), again("\u0665", most/2), "1" + again("_1", (most-1)/2), "0x1" + again("_a", (most-3)/2),
		"nan(" + again("0", most-6) + "7)", "nan(" + again("0", most-5), "nan(" + again("9", most-5) + ")",
	} {
		if len(s) > most {
			t.Fatal("the test's text is too long:", shortened(s))
		}
		readAs(t, s, asked(s))
	}
	for _, s := range []string{again("7", most+1), again("_", most+1), again("\xff", most+1), again(" ", 3*most), "nan(" + again("0", most-4) + ")", "1" + again("\u0665", most/2)} {
		readAs(t, s, answer{code: api.ErrText})
	}
	readAs(t, again("7", most-1)+"x", answer{code: api.ErrTail, at: most - 1})
	readAs(t, again("7", most-1)+"\xff", answer{code: api.ErrUTF, at: most - 1})
	readAs(t, again("7", most-1)+"_", answer{code: api.ErrUnder, at: most - 1})
	readAs(t, again("7", most-1)+"e", answer{code: api.ErrDigits, at: most})
}

func TestP111Sixteens(t *testing.T) {
	for s, want := range map[string]api.Number{
		"0x0": hexNum(false, 0, 0), "-0x0": hexNum(true, 0, 0), "\u22120X0.0P7": hexNum(true, 0, 0), "+0x0p-9": hexNum(false, 0, 0), "0x.0": hexNum(false, 0, 0),
		"0x1": hexNum(false, 1, 0), "0x2": hexNum(false, 1, 1), "-0xF": hexNum(true, 15, 0), "0x1.": hexNum(false, 1, 0), "0x.8": hexNum(false, 1, -1), "0x1.p4": hexNum(false, 1, 4),
		"0xabcdef": hexNum(false, 0xabcdef, 0), "0xABCDEF": hexNum(false, 0xabcdef, 0), "0x0123456789p0": hexNum(false, 0x123456789, 0), "0x00001.80000": hexNum(false, 3, -1),
		"0xa_b.c_d": hexNum(false, 0xabcd, -8), "0x1p1_0": hexNum(false, 1, 10), "0x1P+٣": hexNum(false, 1, 3), "0x1p\u22123": hexNum(false, 1, -3), "0x1e5": hexNum(false, 0x1e5, 0), "0xep1": hexNum(false, 7, 2),
		"0xffffffffffffffff": hexNum(false, 0xffffffffffffffff, 0), "0x80000000": hexNum(false, 1, 31), "0x100000001": hexNum(false, 0x100000001, 0),
	} {
		readAs(t, s, answer{n: want})
	}
	// The digits of other scripts are no sixteens, and none of them begins 0x.
	for s, want := range map[string]answer{
		"0x٣": {code: api.ErrDigits, at: 2}, "0x1٣": {code: api.ErrTail, at: 3}, "0x1.٣": {code: api.ErrTail, at: 4}, "0x.٣": {code: api.ErrDigits, at: 3}, "0x1_٣": {code: api.ErrUnder, at: 3},
		"٠x1": {code: api.ErrTail, at: 2}, "00x1": {code: api.ErrTail, at: 2}, "1x1": {code: api.ErrTail, at: 1}, "0_x1": {code: api.ErrUnder, at: 1}, "0x0x1": {code: api.ErrTail, at: 3}, "x1": {code: api.ErrNumber}, "0x-1": {code: api.ErrDigits, at: 2}, "0x1e+5": {code: api.ErrTail, at: 4}, "0x@": {code: api.ErrDigits, at: 2}, "0x`": {code: api.ErrDigits, at: 2}, "0xG": {code: api.ErrDigits, at: 2}, "0xg": {code: api.ErrDigits, at: 2}, "0x/": {code: api.ErrDigits, at: 2}, "0x:": {code: api.ErrDigits, at: 2},
	} {
		readAs(t, s, want)
	}
}

func TestP111Names(t *testing.T) {
	for _, sign := range []string{"", "+", "-", "\u2212"} {
		neg := isMinus(sign)
		for _, s := range []string{"inf", "INF", "Inf", "iNf", "infinity", "INFINITY", "InfiNitY"} {
			readAs(t, sign+s, answer{n: inf(neg)})
		}
		for s, payload := range map[string]uint64{"nan": 0, "NAN": 0, "NaN": 0, "nan(0)": 0, "NAN(1)": 1, "nan(000)": 0, "nan(2251799813685247)": 1<<51 - 1, "nan(0000000000000000000002251799813685247)": 1<<51 - 1, "nan(10)": 10} {
			readAs(t, sign+s, answer{n: nan(neg, payload)})
		}
		n := len(sign)
		for s, want := range map[string]answer{
			"i": {code: api.ErrNumber}, "in": {code: api.ErrNumber}, "infi": {code: api.ErrTail, at: 3}, "infinit": {code: api.ErrTail, at: 3}, "infinity1": {code: api.ErrTail, at: 8}, "infinityinf": {code: api.ErrTail, at: 8}, "inf_": {code: api.ErrTail, at: 3}, "inf.": {code: api.ErrTail, at: 3}, "inf(1)": {code: api.ErrTail, at: 3},
			"n": {code: api.ErrNumber}, "na": {code: api.ErrNumber}, "nan7": {code: api.ErrTail, at: 3}, "nan_": {code: api.ErrTail, at: 3}, "nan(": {code: api.ErrDigits, at: 4}, "nan()": {code: api.ErrDigits, at: 4}, "nan(_1)": {code: api.ErrDigits, at: 4}, "nan(-1)": {code: api.ErrDigits, at: 4}, "nan(٣)": {code: api.ErrDigits, at: 4}, "nan(x)": {code: api.ErrDigits, at: 4}, "nan(/)": {code: api.ErrDigits, at: 4}, "nan(:)": {code: api.ErrDigits, at: 4},
			"nan(1": {code: api.ErrTail, at: 5}, "nan(1_0)": {code: api.ErrTail, at: 5}, "nan(1_": {code: api.ErrTail, at: 5}, "nan(1٣)": {code: api.ErrTail, at: 5}, "nan(0x1)": {code: api.ErrTail, at: 5}, "nan(12 )": {code: api.ErrTail, at: 6}, "nan(1))": {code: api.ErrTail, at: 6}, "nan(1)1": {code: api.ErrTail, at: 6},
			"nan(2251799813685248)": {code: api.ErrPayload, at: 4}, "nan(0002251799813685248)": {code: api.ErrPayload, at: 4}, "nan(18446744073709551616)": {code: api.ErrPayload, at: 4}, "nan(18446744073709551617)": {code: api.ErrPayload, at: 4}, "nan(99999999999999999999999999999999999999999)": {code: api.ErrPayload, at: 4},
			// The payload's first digit stands ahead of where the bracket lacks.
			"nan(2251799813685248": {code: api.ErrPayload, at: 4}, "nan(2251799813685248x)": {code: api.ErrPayload, at: 4}, "nan(2251799813685248\xff": {code: api.ErrPayload, at: 4},
		} {
			want.at += n
			readAs(t, sign+s, want)
		}
	}
	// A name's letters have no third shape.
	for _, s := range []string{"\u0131nf", "\u0130nf", "\uff49nf", "i\u0274f"} {
		readAs(t, s, answer{code: api.ErrNumber})
	}
}

func TestP111Underscores(t *testing.T) {
	for s, at := range map[string]int{
		"_": 0, "__1": 0, "_x": 0, "_\xff": 0, "_.5": 0, "-_": 1, "+_1": 1, "\u2212_1": 3, "._": 1, "._5": 1, "-._5": 2, "1._": 2, "1._e5": 2, "1.5_": 3, "1.5_e5": 3, "1.5__5": 3,
		"1_e5": 1, "1_x": 1, "1_\xff": 1, "1_-": 1, "1__": 1, "12_3_": 4, "1e_": 2, "1e+_": 3, "1e-_5": 3, "1e\u2212_5": 5, "1e5_": 3, "1e5__5": 3, "1e5_x": 3,
		"0x_": 2, "0x__1": 2, "0x._": 3, "0x._1": 3, "0x1_": 3, "0x1_g": 3, "0x1__1": 3, "0x1_.": 3, "0x1._": 4, "0x1._8": 4, "0x1.8_": 5, "0x1_p5": 3, "0x1p_": 4, "0x1p_5": 4, "0x1p+_5": 5, "0x1p-_": 5, "0x1p5_": 5, "0x1p5_a": 5,
		"٣_": 2, "٣__٣": 2, "1e٣_": 4, "_inf": 0, "-_inf": 1, "_0x1": 0, "0_": 1,
	} {
		readAs(t, s, answer{code: api.ErrUnder, at: at})
	}
}

// Of two faults that one that stands ahead is told.
func TestP111WhichComesFirst(t *testing.T) {
	for s, want := range map[string]answer{
		"1_x\xff": {code: api.ErrUnder, at: 1}, "1e_\xff": {code: api.ErrUnder, at: 2}, "x\xff": {code: api.ErrNumber}, "1x\xff": {code: api.ErrTail, at: 1}, "\xff_": {code: api.ErrUTF}, "1\xff_": {code: api.ErrUTF, at: 1},
		".x_": {code: api.ErrDigits, at: 1}, "1ex_1": {code: api.ErrDigits, at: 2}, "1.5.5_": {code: api.ErrTail, at: 3}, "nan(1_\xff": {code: api.ErrTail, at: 5}, "1e5e_": {code: api.ErrTail, at: 3}, "0x1g_": {code: api.ErrTail, at: 3}, "++_": {code: api.ErrNumber, at: 1},
	} {
		readAs(t, s, want)
	}
}

// Bytes that are no UTF-8: a broken one, a rune cut off, one told too long, half of a pair, one beyond the end.
func TestP111BrokenBytes(t *testing.T) {
	broken := []string{"\xff", "\x80", "\xc0\xb1", "\xd9", "\xe2\x88", "\xe2\x88x", "\xf0\x9d\x9f", "\xed\xa0\x80", "\xf4\x90\x80\x80", "\xd9\xd9", "\xc3\x28"}
	for _, b := range broken {
		for _, s := range []string{"", "-", "+", "\u2212", ".", "-.", "1", "1.", "1.5", "1e", "1e+", "1e\u2212", "1e5", "0x", "0x.", "0x1", "0x1.", "0x1.8", "0x1p", "0x1p-", "0x1p5", "inf", "-infinity", "nan", "nan(", "nan(7", "nan(7)", "٣", "-٣_٣"} {
			readAs(t, s+b, answer{code: api.ErrUTF, at: len(s)})
			readAs(t, s+b+"1", answer{code: api.ErrUTF, at: len(s)})
		}
		for _, s := range []string{"1_", "0x1_", "1e5_"} {
			readAs(t, s+b, answer{code: api.ErrUnder, at: len(s) - 1})
		}
	}
	// U+FFFD itself is no broken byte, nor is any other rune.
	for _, s := range []string{"\ufffd", "\u00e9", "\U0010ffff", "\x00"} {
		for begin, code := range map[string]api.Errno{"": api.ErrNumber, "-": api.ErrNumber, ".": api.ErrDigits, "1e": api.ErrDigits, "0x": api.ErrDigits, "nan(": api.ErrDigits, "1": api.ErrTail, "0x1": api.ErrTail, "inf": api.ErrTail, "nan(1": api.ErrTail} {
			readAs(t, begin+s, answer{code: code, at: len(begin)})
		}
	}
}

// The error is or wraps the fault, tells a text, and no two calls share one.
func TestP111TheErrorWrapsItsFault(t *testing.T) {
	_, err := Read("12x")
	var f, g *api.Fault
	if !errors.As(err, &f) || !errors.Is(err, f) {
		t.Fatal("no fault in", err)
	}
	f.Code, f.At = api.ErrMany, 99
	_, second := Read("12x")
	if !errors.As(second, &g) || g.Code != api.ErrTail || g.At != 2 {
		t.Error("a fault that was changed comes back:", g)
	}
	told := map[string]string{}
	for _, s := range []string{"x", ".", "1_", "1x", "\xff", "nan(2251799813685248)", again("1", most+1)} {
		_, err := Read(s)
		text := err.Error()
		if told[text] != "" || text == "" {
			t.Errorf("%s tells %q, as does %s", shortened(s), text, shortened(told[text]))
		}
		told[text] = s
		if f := faultOf(t, s, err); !strings.Contains(text, strconv.Itoa(f.At)) {
			t.Errorf("%q does not tell the place %d", text, f.At)
		}
	}
	if n, err := Read("1"); err != nil || n.Kind != api.NumDec {
		t.Error("an error beside a number:", err)
	}
}
