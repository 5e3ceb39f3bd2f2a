package sure

import (
	"math"
	"strconv"
	"strings"
	"testing"

	"numeral/api"
)

// bothSome wants this decimal of so many digits of a float, and its mirror of the float with the other sign.
func bothSome(t *testing.T, f api.Form, float uint64, n int, want api.Dec) {
	t.Helper()
	someAre(t, f, float, n, sureOf(want))
	someAre(t, f, float^minus(f), n, sureOf(turned(want)))
}

// A tenth, to each count of digits: 0.1000000000000000055511151231257827..; a third of Double: 0.333333333333333314829616256247..
func TestP192EachCount(t *testing.T) {
	for n := 1; n <= 16; n++ {
		bothSome(t, double, math.Float64bits(0.1), n, dc("1", -1))
		bothSome(t, double, math.Float64bits(1.0/3), n, dc(strings.Repeat("3", n), -n))
	}
	bothSome(t, double, math.Float64bits(0.1), 17, dc("10000000000000001", -17))
	bothSome(t, double, math.Float64bits(1.0/3), 17, dc("33333333333333331", -17))
	pi := "31415926535897931"
	for n, want := range []string{"3", "31", "314", "3142", "31416", "314159", "3141593", "31415927", "314159265", "3141592654", "31415926536", "31415926535|9", "3141592653590", "31415926535898", "314159265358979", "3141592653589793", pi} {
		want = strings.ReplaceAll(want, "|", "")
		bothSome(t, double, math.Float64bits(math.Pi), n+1, only(false, want, -n))
	}
}

func TestP192WrittenOut(t *testing.T) {
	for _, c := range []struct {
		f     api.Form
		float uint64
		n     int
		want  api.Dec
	}{
		{least, 1, 1, dc("5", -1)}, {least, 3, 1, dc("2", 0)}, {least, 3, 2, dc("15", -1)}, {least, 5, 17, dc("3", 0)},
		// 2^-24 is 5.9604644775390625e-8.
		{half, 1, 1, dc("6", -8)}, {half, 1, 2, dc("6", -8)}, {half, 1, 3, dc("596", -10)}, {half, 1, 16, dc("5960464477539062", -23)}, {half, 1, 17, dc("59604644775390625", -24)},
		// 2^-24 times 1023 is 0.000060975551605224609375, 2^-14 is 0.00006103515625.
		{half, 0x3ff, 5, dc("60976", -9)}, {half, 0x3ff, 17, dc("60975551605224609", -21)}, {half, 0x400, 9, dc("610351562", -13)}, {half, 0x400, 10, dc("6103515625", -14)}, {half, 0x400, 17, dc("6103515625", -14)},
		{half, 0x7bff, 1, dc("7", 4)}, {half, 0x7bff, 2, dc("66", 3)}, {half, 0x7bff, 3, dc("655", 2)}, {half, 0x7bff, 5, dc("65504", 0)}, {half, 0x7bff, 17, dc("65504", 0)},
		// 0.99951171875 and 0.9990234375, just below 1, and 1.0009765625 just above.
		{half, 0x3bff, 1, dc("1", 0)}, {half, 0x3bff, 3, dc("1", 0)}, {half, 0x3bff, 4, dc("9995", -4)}, {half, 0x3bfe, 2, dc("1", 0)}, {half, 0x3bfe, 3, dc("999", -3)}, {half, 0x3c01, 3, dc("1", 0)}, {half, 0x3c01, 4, dc("1001", -3)}, {half, 0x3c01, 10, dc("1000976562", -9)}, {half, 0x3c01, 11, dc("10009765625", -10)},
		{brain, 1, 5, dc("91835", -45)}, {brain, 0x7f7f, 4, dc("339", 36)}, {brain, 0x7f7f, 8, dc("33895314", 31)},
		{single, 1, 9, dc("140129846", -53)}, {single, 0x7f7fffff, 9, dc("340282347", 30)}, {single, 0x7f7fffff, 17, dc("34028234663852886", 22)}, {single, 0x3dcccccd, 17, dc("10000000149011612", -17)},
		{double, 1, 17, dc("49406564584124654", -340)}, {double, 1, 1, dc("5", -324)}, {double, 1<<52 - 1, 17, dc("22250738585072009", -324)}, {double, 1 << 52, 17, dc("22250738585072014", -324)}, {double, 0x7fefffffffffffff, 17, dc("17976931348623157", 292)}, {double, 0x7fefffffffffffff, 1, dc("2", 308)},
		// 10^23 rounded is 99999999999999991611392.
		{double, math.Float64bits(1e23), 1, dc("1", 23)}, {double, math.Float64bits(1e23), 16, dc("9999999999999999", 7)}, {double, math.Float64bits(1e23), 17, dc("99999999999999992", 6)},
	} {
		bothSome(t, c.f, c.float, c.n, c.want)
	}
}

// Just half way, behind a power of ten that is whole: the even one is told.
func TestP192HalfWay(t *testing.T) {
	for _, c := range []struct {
		v    float64
		n    int
		want api.Dec
	}{
		{0.5, 1, dc("5", -1)}, {1.5, 1, dc("2", 0)}, {2.5, 1, dc("2", 0)}, {3.5, 1, dc("4", 0)}, {8.5, 1, dc("8", 0)}, {9.5, 1, dc("1", 1)}, {0.25, 1, dc("2", -1)}, {0.75, 1, dc("8", -1)}, {0.125, 2, dc("12", -2)}, {0.375, 2, dc("38", -2)},
		{99.5, 2, dc("1", 2)}, {98.5, 2, dc("98", 0)}, {1234.5, 4, dc("1234", 0)}, {1235.5, 4, dc("1236", 0)}, {0x1p-3, 2, dc("12", -2)}, {0x1p-24, 16, dc("5960464477539062", -23)},
		{4503599627370497.5, 16, dc("4503599627370498", 0)}, {4503599627370496.5, 16, dc("4503599627370496", 0)}, {0x1p-25, 17, dc("29802322387695312", -24)}, {0x3p-25, 17, dc("89406967163085938", -24)},
	} {
		bothSome(t, double, math.Float64bits(c.v), c.n, c.want)
	}
}

// Behind one that is cut it is not seen.
func TestP192NotSure(t *testing.T) {
	for _, c := range []struct {
		v float64
		n int
	}{{15, 1}, {25, 1}, {35, 1}, {95, 1}, {125, 2}, {995, 2}, {250, 1}, {2500, 1}, {12500, 2}, {995000, 2}, {1234567890125, 12}, {9007199254740985, 15}, {36028797018965000, 13}, {25e20, 1}} {
		// The digits are the number's own, to the last one.
		if digits := strconv.FormatFloat(c.v, 'f', 0, 64); strings.TrimRight(digits[c.n:], "0") != "5" {
			t.Fatalf("%s is not half way at %d digits", digits, c.n)
		}
		float := math.Float64bits(c.v)
		someAre(t, double, float, c.n, told{})
		someAre(t, double, float^minus(double), c.n, told{})
	}
	// A digit more, or less, is sure.
	for _, n := range []int{2, 3, 17} {
		bothSome(t, double, math.Float64bits(25), n, dc("25", 0))
	}
	bothSome(t, double, math.Float64bits(125), 1, dc("1", 2))
	// Beside what is half way it is sure, too.
	bothSome(t, double, math.Float64bits(math.Nextafter(25, 0)), 1, dc("2", 1))
	bothSome(t, double, math.Float64bits(math.Nextafter(25, 26)), 1, dc("3", 1))
	someAre(t, half, 0x4e40, 1, told{}) // 25
	bothSome(t, half, 0x4e3f, 1, dc("2", 1))
	bothSome(t, half, 0x4e41, 1, dc("3", 1))
}

func TestP192Noughts(t *testing.T) {
	for _, f := range allForms() {
		for n := 1; n <= mostAsked; n++ {
			someAre(t, f, 0, n, told{sure: true})
			someAre(t, f, minus(f), n, told{d: api.Dec{Neg: true}, sure: true})
		}
	}
}
