package hex

import (
	"errors"
	"math"
	"math/big"
	"math/rand/v2"
	"strconv"
	"strings"
	"testing"

	"numeral/api"
	"numeral/exact"
	"numeral/lex"
	"numeral/round"
)

func pick(r *rand.Rand, of ...string) string { return of[r.IntN(len(of))] }

// written is n times 2 to the power of exp as some text in sixteens: with the point anywhere, and noughts at either end.
func written(r *rand.Rand, neg bool, n *big.Int, exp int) string {
	up := r.IntN(16)
	digits := again("0", r.IntN(4)) + new(big.Int).Lsh(n, uint(up)).Text(16)
	if r.IntN(2) == 0 {
		digits = strings.ToUpper(digits)
	}
	behind := r.IntN(len(digits) + 1)
	ahead := len(digits) - behind
	text := digits[:ahead]
	if behind > 0 || r.IntN(4) == 0 {
		text += "." + digits[ahead:]
	}
	return signText(neg) + pick(r, "0x", "0X") + text + pick(r, "p", "P") + strconv.Itoa(exp-up+4*behind)
}

// readsAs wants the text to be read as n times 2 to the power of exp rounds, by every mode.
func readsAs(t *testing.T, f api.Form, s string, neg bool, n *big.Int, exp int) {
	t.Helper()
	d, e := exact.Make(neg, natOf(n), exp)
	if e != api.OK {
		t.Fatal(s, int(e))
	}
	for _, mode := range everyMode {
		bits, flags, e := round.Dyadic(f, d, neg, mode)
		if e != api.OK {
			t.Fatal(s, int(e))
		}
		readAs(t, f, s, mode, bits, flags)
	}
}

// Numbers about a float: itself, halves, what is a little beside these, all with many bits or few.
func TestP123AboutFloats(t *testing.T) {
	r := source(5)
	for range 8000 {
		f := someForm(r)
		neg, n, exp := parts(f, some(r, f))
		x := new(big.Int).SetUint64(n)
		for range r.IntN(3) {
			more := 1 + r.IntN(70)
			x.Lsh(x, uint(more))
			exp -= more
			x.Add(x, big.NewInt(r.Int64N(3)-1))
			x.Abs(x)
		}
		readsAs(t, f, written(r, neg, x, exp), neg, x, exp)
	}
}

// Every float of small forms, the half between it and the next one, and what lies a little above and below, beyond the greatest float and at nought too.
func TestP123EveryHalfOfSmallForms(t *testing.T) {
	r := source(6)
	for _, f := range smallForms()[:8] {
		for float := range infinity(f) {
			_, n, exp := parts(f, float)
			x := new(big.Int).SetUint64(4*n + 2)
			for _, y := range []*big.Int{new(big.Int).SetUint64(4 * n), new(big.Int).SetUint64(4*n + 1), x, new(big.Int).SetUint64(4*n + 3)} {
				for _, neg := range []bool{false, true} {
					readsAs(t, f, written(r, neg, y, exp-2), neg, y, exp-2)
				}
			}
			long := new(big.Int).Lsh(x, 300)
			for _, y := range []*big.Int{new(big.Int).Add(long, big.NewInt(1)), new(big.Int).Sub(long, big.NewInt(1))} {
				readsAs(t, f, written(r, false, y, exp-302), false, y, exp-302)
			}
		}
	}
}

// byModes are the answers by every mode, in the order of their numbers.
type byModes struct {
	bits  [5]uint64
	flags [5]uint8
}

// all is one flag by every mode.
func all(flags uint8) [5]uint8 { return [5]uint8{flags, flags, flags, flags, flags} }

// Answers of Half, written out with their flags by every mode.
func TestP123WrittenOut(t *testing.T) {
	for s, want := range map[string]byModes{
		"0x1p0":            {[5]uint64{0x3c00, 0x3c00, 0x3c00, 0x3c00, 0x3c00}, all(0)},
		"0x1":              {[5]uint64{0x3c00, 0x3c00, 0x3c00, 0x3c00, 0x3c00}, all(0)},
		"+0XA.":            {[5]uint64{0x4900, 0x4900, 0x4900, 0x4900, 0x4900}, all(0)},
		"-0x.8P-0":         {[5]uint64{0xb800, 0xb800, 0xb800, 0xb800, 0xb800}, all(0)},
		"0x1.002p0":        {[5]uint64{0x3c00, 0x3c01, 0x3c00, 0x3c01, 0x3c00}, all(inexact)},
		"-0x1.002p0":       {[5]uint64{0xbc00, 0xbc01, 0xbc00, 0xbc00, 0xbc01}, all(inexact)},
		"0x1.006p0":        {[5]uint64{0x3c02, 0x3c02, 0x3c01, 0x3c02, 0x3c01}, all(inexact)},
		"0x1.00200000001":  {[5]uint64{0x3c01, 0x3c01, 0x3c00, 0x3c01, 0x3c00}, all(inexact)},
		"-0x1.001fffffff":  {[5]uint64{0xbc00, 0xbc00, 0xbc00, 0xbc00, 0xbc01}, all(inexact)},
		"0x1.ffcp15":       {[5]uint64{0x7bff, 0x7bff, 0x7bff, 0x7bff, 0x7bff}, all(0)},
		"0x1.ffdp15":       {[5]uint64{0x7bff, 0x7bff, 0x7bff, 0x7c00, 0x7bff}, [5]uint8{inexact, inexact, inexact, overflow, inexact}},
		"0x1.ffep15":       {[5]uint64{0x7c00, 0x7c00, 0x7bff, 0x7c00, 0x7bff}, [5]uint8{overflow, overflow, inexact, overflow, inexact}},
		"-0x1.ffep15":      {[5]uint64{0xfc00, 0xfc00, 0xfbff, 0xfbff, 0xfc00}, [5]uint8{overflow, overflow, inexact, inexact, overflow}},
		"0x1p16":           {[5]uint64{0x7c00, 0x7c00, 0x7bff, 0x7c00, 0x7bff}, all(overflow)},
		"-0x10000":         {[5]uint64{0xfc00, 0xfc00, 0xfbff, 0xfbff, 0xfc00}, all(overflow)},
		"0x1p-24":          {[5]uint64{1, 1, 1, 1, 1}, all(0)},
		"0x1p-25":          {[5]uint64{0, 1, 0, 1, 0}, all(underflow)},
		"-0x1p-25":         {[5]uint64{0x8000, 0x8001, 0x8000, 0x8000, 0x8001}, all(underflow)},
		"0x1.8p-24":        {[5]uint64{2, 2, 1, 2, 1}, all(underflow)},
		"0x1.0001p-25":     {[5]uint64{1, 1, 0, 1, 0}, all(underflow)},
		"0x1p-26":          {[5]uint64{0, 0, 0, 1, 0}, all(underflow)},
		"-0x1p-1000":       {[5]uint64{0x8000, 0x8000, 0x8000, 0x8000, 0x8001}, all(underflow)},
		"0x1.ffcp-15":      {[5]uint64{0x400, 0x400, 0x3ff, 0x400, 0x3ff}, all(underflow)},
		"0x1.ffep-15":      {[5]uint64{0x400, 0x400, 0x3ff, 0x400, 0x3ff}, [5]uint8{inexact, inexact, underflow, inexact, underflow}},
		"0x0p0":            {[5]uint64{0, 0, 0, 0, 0}, all(0)},
		"-0x0":             {[5]uint64{0x8000, 0x8000, 0x8000, 0x8000, 0x8000}, all(0)},
		"-0X.0000p-99":     {[5]uint64{0x8000, 0x8000, 0x8000, 0x8000, 0x8000}, all(0)},
		"\u22120x0.p7":     {[5]uint64{0x8000, 0x8000, 0x8000, 0x8000, 0x8000}, all(0)},
		"+0x0p999999":      {[5]uint64{0, 0, 0, 0, 0}, all(0)},
		"\u22120x1_0p-0_4": {[5]uint64{0xbc00, 0xbc00, 0xbc00, 0xbc00, 0xbc00}, all(0)},
		"0x1p\u0661\u0660": {[5]uint64{0x6400, 0x6400, 0x6400, 0x6400, 0x6400}, all(0)},
		"0xdead.beefp-8":   {[5]uint64{0x5af5, 0x5af5, 0x5af5, 0x5af6, 0x5af5}, all(inexact)},
	} {
		for _, mode := range everyMode {
			readAs(t, half, s, mode, want.bits[mode], want.flags[mode])
		}
	}
}

// Exponents without end, of either sign, and rows that bring them back.
func TestP123FarExponents(t *testing.T) {
	beyond := [5]uint64{0x7c00, 0x7c00, 0x7bff, 0x7c00, 0x7bff}
	beyondMinus := [5]uint64{0xfc00, 0xfc00, 0xfbff, 0xfbff, 0xfc00}
	near := [5]uint64{0, 0, 0, 1, 0}
	nearMinus := [5]uint64{0x8000, 0x8000, 0x8000, 0x8000, 0x8001}
	for _, exp := range []string{"5000", "1073741823", "1073741824", "1073741825", "9223372036854775807", "9223372036854775808", "99999999999999999999999999", again("9", 1000)} {
		for _, mode := range everyMode {
			for _, digits := range []string{"0x1", "0xfff.fff", "0x.0001"} {
				readAs(t, half, digits+"p"+exp, mode, beyond[mode], overflow)
				readAs(t, half, "-"+digits+"p+"+exp, mode, beyondMinus[mode], overflow)
				readAs(t, half, digits+"p-"+exp, mode, near[mode], underflow)
				readAs(t, half, "-"+digits+"p-"+exp, mode, nearMinus[mode], underflow)
			}
			readAs(t, half, "0x0p"+exp, mode, 0, 0)
			readAs(t, half, "-0x0.0p-"+exp, mode, 0x8000, 0)
		}
	}
	for _, mode := range everyMode {
		readAs(t, half, "0x."+again("0", 5000)+"1p20004", mode, 0x3c00, 0)
		readAs(t, half, "-0x1"+again("0", 5000)+"p-20000", mode, 0xbc00, 0)
	}
}

// Texts of just MaxText bytes are read; one byte more is refused, whatever stands there.
func TestP123LongTexts(t *testing.T) {
	for _, mode := range everyMode {
		readAs(t, half, "0x"+again("0", most-3)+"1", mode, 0x3c00, 0)
		readAs(t, half, "0x1."+again("0", most-4), mode, 0x3c00, 0)
		up := uint64(0)
		if mode == api.Up {
			up = 1
		}
		readAs(t, half, "0x1."+again("0", most-5)+"1", mode, 0x3c00+up, inexact)
		notRead(t, half, "0x"+again("0", most-2)+"1", mode, api.ErrText, 0)
		notRead(t, half, again("x", most+1), mode, api.ErrText, 0)
		notRead(t, half, again("1", most+1), mode, api.ErrText, 0)
		notRead(t, half, again("x", most), mode, api.ErrNumber, 0)
		notRead(t, half, again("1", most), mode, api.ErrHex, 0)
		notRead(t, half, "0x"+again("f", most-3)+"g", mode, api.ErrTail, most-1)
	}
}

// What lex refuses, with its place.
func TestP123WhatLexRefuses(t *testing.T) {
	for _, c := range []struct {
		code  api.Errno
		texts map[string]int
	}{
		{api.ErrNumber, map[string]int{"": 0, "-": 1, "+-0x1": 1, "x1": 0, "p5": 0, " 0x1": 0}},
		{api.ErrDigits, map[string]int{"0x": 2, "-0X": 3, "0x.": 3, "0x.p1": 3, "0xp1": 2, "0x1p": 4, "0x1p+": 5, "0x1px": 4, "1e": 2, "nan(": 4, ".": 1, "0x\u0661": 2}},
		{api.ErrUnder, map[string]int{"_0x1": 0, "0x_1": 2, "0x1__0": 3, "0xa_": 3, "0x1._8": 4, "0x1p_5": 4, "0x1p5_": 5, "1_": 1, "0_x1": 1}},
		{api.ErrTail, map[string]int{"0x1g": 3, "0x1.8.": 5, "0x1 ": 3, "0x1p5x": 5, "0x1p1.5": 5, "1.5x": 3, "infx": 3, "nan(7": 5, "0x1e+5": 4}},
		{api.ErrUTF, map[string]int{"\xff": 0, "0x\xff": 2, "0x1\xff": 3, "0x1p\xff": 4, "-\xc3\x28": 1}},
		{api.ErrPayload, map[string]int{"nan(2251799813685248)": 4}},
	} {
		for s, at := range c.texts {
			for _, mode := range everyMode {
				notRead(t, half, s, mode, c.code, at)
				notRead(t, double, s, mode, c.code, at)
			}
		}
	}
}

// Of each text that is spoilt somewhere, just what lex tells.
func TestP123AsLexRefuses(t *testing.T) {
	r := source(7)
	refused := 0
	for range 20000 {
		s := written(r, r.IntN(2) == 0, new(big.Int).SetUint64(r.Uint64()>>r.IntN(64)), r.IntN(40)-20)
		at := r.IntN(len(s))
		s = s[:at] + pick(r, "", "_", ".", "x", "p", "-", "g", "\xff", "0", " ", "\u0661") + s[at+r.IntN(2):]
		_, err := lex.Read(s)
		var fault *api.Fault
		if !errors.As(err, &fault) {
			continue
		}
		refused++
		notRead(t, single, s, uint8(r.IntN(5)), fault.Code, fault.At)
	}
	if refused < 2000 {
		t.Error("only so many texts were refused:", refused)
	}
}

// Numbers that are not told in sixteens.
func TestP123OtherKinds(t *testing.T) {
	for _, s := range []string{"0", "-0", "+0.0", "1", "1.5", "-1e5", "0e0", ".5", "1_0", "00", "01", "\u0661", "inf", "-inf", "Infinity", "nan", "-NaN", "nan(7)", "1e99999999999"} {
		for _, f := range namedForms() {
			for _, mode := range everyMode {
				notRead(t, f, s, mode, api.ErrHex, 0)
			}
		}
	}
}

// As Go reads, in Double and Single, by Even: floats, halves and what is beside them.
func TestP123AsGoReads(t *testing.T) {
	r := source(8)
	check := func(f api.Form, size int) {
		neg, n, exp := parts(f, some(r, f))
		more := r.IntN(80)
		x := new(big.Int).SetUint64(n)
		x.Lsh(x, uint(more)).Add(x, big.NewInt(r.Int64N(5)))
		if r.IntN(2) == 0 && more > 0 {
			x.Add(x, new(big.Int).Lsh(big.NewInt(1), uint(more-1)))
		}
		s := written(r, neg, x, exp-more)
		v, err := strconv.ParseFloat(s, size)
		if err != nil && !errors.Is(err, strconv.ErrRange) {
			t.Fatal(s, err)
		}
		want := math.Float64bits(v)
		if size == 32 {
			want = uint64(math.Float32bits(float32(v)))
		}
		if bits, _, err := Read(f, s, api.Even); bits != want || err != nil {
			t.Errorf("Read(%v, %s, Even): %#x, %v; Go reads %#x", f, shortened(s), bits, err, want)
		}
	}
	for range 20000 {
		check(double, 64)
		check(single, 32)
	}
}
