package read

import (
	"errors"
	"math"
	"math/rand/v2"
	"strconv"
	"testing"

	"numeral/api"
)

// doubleIs wants Double to answer the float of these bits, or any that is no number, if nan is set; singleIs likewise.
func doubleIs(t *testing.T, s string, bits uint64, nan bool) {
	t.Helper()
	x, err := Double(s)
	if err != nil || (x != x) != nan || !nan && math.Float64bits(x) != bits {
		t.Errorf("Double(%s): %v (%#x), %v; want %#x", shortened(s), x, math.Float64bits(x), err, bits)
	}
}

func singleIs(t *testing.T, s string, bits uint64, nan bool) {
	t.Helper()
	x, err := Single(s)
	if err != nil || (x != x) != nan || !nan && uint64(math.Float32bits(x)) != bits {
		t.Errorf("Single(%s): %v (%#x), %v; want %#x", shortened(s), x, math.Float32bits(x), err, bits)
	}
}

func TestP163WrittenOut(t *testing.T) {
	for _, c := range []struct {
		s    string
		x    float64
		y    float32
		text string
	}{
		{"0", 0, 0, ""}, {"1", 1, 1, ""}, {"-1.5", -1.5, -1.5, ""}, {"0.1", 0.1, 0.1, ""}, {"-2.5e-3", -0.0025, -0.0025, ""}, {"0x1.8p3", 12, 12, ""}, {"\u0663_0", 30, 30, ""},
		{"9007199254740993", 9007199254740992, 9007199254740992, ""}, {"16777217", 16777217, 16777216, ""}, {"1e23", 1e23, 1e23, ""}, {"3.141592653589793238462643", math.Pi, math.Pi, ""},
		{"1e39", 1e39, float32(math.Inf(1)), ""}, {"-1e39", -1e39, float32(math.Inf(-1)), ""}, {"1e-46", 1e-46, 0, ""}, {"1e-45", 1e-45, 1e-45, ""}, {"1e400", math.Inf(1), float32(math.Inf(1)), ""}, {"1e-400", 0, 0, ""},
		{"1.7976931348623157e308", math.MaxFloat64, float32(math.Inf(1)), ""}, {"5e-324", math.SmallestNonzeroFloat64, 0, ""}, {"3.4028235e38", 3.4028235e38, math.MaxFloat32, ""}, {"inf", math.Inf(1), float32(math.Inf(1)), ""}, {"-Infinity", math.Inf(-1), float32(math.Inf(-1)), ""},
		// By way of a float64 this one would be 1 in Single, too: the middle of two float32, and the rest lost.
		{"1.000000059604644775390625000000000000000001", 1.000000059604644775390625, 1.00000011920928955078125, ""},
	} {
		doubleIs(t, c.s, math.Float64bits(c.x), false)
		singleIs(t, c.s, uint64(math.Float32bits(c.y)), false)
	}
	for _, s := range []string{"-0", "-0.0e5", "-0x0", "-1e-999"} {
		doubleIs(t, s, 1<<63, false)
		singleIs(t, s, 1<<31, false)
	}
	for _, s := range []string{"nan", "-nan", "NaN(0)", "nan(7)", "-nan(4194303)"} {
		doubleIs(t, s, 0, true)
		singleIs(t, s, 0, true)
	}
}

// A payload is too great for each form by itself.
func TestP163Payloads(t *testing.T) {
	doubleIs(t, "nan(4194304)", 0, true)
	doubleIs(t, "nan(2251799813685247)", 0, true)
	x, err := Single("nan(4194304)")
	isFault(t, "Single(nan(4194304))", err, api.ErrPayload, 0)
	if x != 0 {
		t.Errorf("Single: %v beside an error", x)
	}
	nativeRefuse(t, "nan(2251799813685248)", api.ErrPayload, 4)
}

// asBits wants Double and Single to be Bits by Even, of a text that they read.
func asBits(t *testing.T, s string) {
	t.Helper()
	if bits, _, err := Bits(double, s, api.Even); err == nil {
		doubleIs(t, s, bits, bits%signBit(double) > infinite(double))
	}
	if bits, _, err := Bits(single, s, api.Even); err == nil {
		singleIs(t, s, bits, bits%signBit(single) > infinite(single))
	}
}

func TestP163AsBits(t *testing.T) {
	r := source(60)
	for range 4000 {
		asBits(t, dressed(r, someNumber(r, double).someText(r)))
		asBits(t, dressed(r, someNumber(r, single).someText(r)))
		asBits(t, anyText(r))
	}
}

// asGo wants Double and Single to read a text as strconv does, and to refuse it just where that tells a syntax error.
func asGo(t *testing.T, s string) {
	t.Helper()
	for _, size := range []int{64, 32} {
		want, err := strconv.ParseFloat(s, size)
		syntax := errors.Is(err, strconv.ErrSyntax)
		x, refusal := Double(s)
		if size == 32 {
			var y float32
			y, refusal = Single(s)
			x = float64(y)
		}
		if syntax {
			faultOf(t, shortened(s), refusal)
			want = 0
		}
		if (refusal != nil) != syntax || math.Float64bits(x) != math.Float64bits(want) {
			t.Errorf("%s as %d bits: %v, %v; Go reads %v, %v", shortened(s), size, x, refusal, want, err)
		}
	}
}

// All short texts of these letters, whether they say a number or not.
func TestP166ShortTextsAsGoReads(t *testing.T) {
	const letters = "019.e+-"
	all := []string{""}
	for length := 0; length < 6; length++ {
		for _, s := range all {
			asGo(t, s)
		}
		var longer []string
		for _, s := range all {
			for i := range len(letters) {
				longer = append(longer, s+letters[i:i+1])
			}
		}
		all = longer
	}
}

func plainText(r *rand.Rand, n number) string {
	digits, exp := n.digits, n.exp
	behind := r.IntN(len(digits) + 1)
	if behind > 0 {
		digits = digits[:len(digits)-behind] + "." + digits[len(digits)-behind:]
		exp += behind
	}
	if exp != 0 {
		digits += "e" + strconv.Itoa(exp)
	}
	if n.neg {
		return "-" + digits
	}
	return pick(r, "", "+") + digits
}

func TestP166AsGoReads(t *testing.T) {
	r := source(61)
	for range 15000 {
		asGo(t, plainText(r, someNumber(r, double)))
		asGo(t, plainText(r, someNumber(r, single)))
		asGo(t, plainText(r, number{r.IntN(2) == 0, someDigits(r, 1+r.IntN(18)), r.IntN(60) - 30}))
	}
	for range 300 {
		asGo(t, plainText(r, number{r.IntN(2) == 0, someDigits(r, 600+r.IntN(60)), -r.IntN(900)}))
	}
}

// Floats, middles and what is beside them, in at most 700 bytes; for Double the digits of most middles are more than that, and cut here.
func TestP166MiddlesAsGoReads(t *testing.T) {
	r := source(62)
	for range 600 {
		for _, f := range []api.Form{double, single} {
			bits := pick(r, r.Uint64N(infinite(f)), uint64(bias(f)-30+r.IntN(90))<<f.Frac+r.Uint64N(normal(f)))
			for _, x := range []number{numberOf(worthOf(f, bits), r.IntN(2) == 0), numberOf(middleOf(f, bits), r.IntN(2) == 0)} {
				if cut := len(x.digits) - 660; cut > 0 {
					x.digits, x.exp = x.digits[:660], x.exp+cut
				}
				for _, n := range x.beside(r.IntN(20)) {
					asGo(t, plainText(r, n))
				}
			}
		}
	}
}

// Texts that are spoilt somewhere.
func TestP166SpoiltTextsAsGoReads(t *testing.T) {
	r := source(63)
	refused := 0
	for range 20000 {
		s := plainText(r, someNumber(r, double))
		at := r.IntN(len(s) + 1)
		s = s[:at] + pick(r, "", ".", "e", "-", "+", "0", "7") + s[min(len(s), at+r.IntN(2)):]
		asGo(t, s)
		if _, err := Double(s); err != nil {
			refused++
		}
	}
	if refused < 2000 {
		t.Error("only so many texts were refused:", refused)
	}
}

// Far exponents, of as many digits as 700 bytes have room for.
func TestP166FarExponentsAsGoReads(t *testing.T) {
	for _, digits := range []string{"1", "0", "-9.99", "0.000", "123456789012345678901234567890", "0." + again("0", 300) + "1", again("7", 300)} {
		for _, exp := range []string{"0", "-0", "+00", "300", "-300", "309", "-324", "400", "-401", "9999", "10000", "-10000", "99999", "1073741824", "-1073741825", "9223372036854775808", "-18446744073709551617", again("9", 350), "-" + again("9", 350), again("0", 350) + "1"} {
			asGo(t, digits+"e"+exp)
		}
	}
}
