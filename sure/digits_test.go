package sure

import (
	"math"
	"testing"

	"numeral/api"
)

// bothSigns wants this decimal of a float, and its mirror of the float with the other sign.
func bothSigns(t *testing.T, f api.Form, float uint64, want api.Dec) {
	t.Helper()
	digitsAre(t, f, float, sureOf(want))
	digitsAre(t, f, float^minus(f), sureOf(turned(want)))
}

// notSure wants of a float, with both signs, that it is not told.
func notSure(t *testing.T, f api.Form, float uint64) {
	t.Helper()
	digitsAre(t, f, float, told{})
	digitsAre(t, f, float^minus(f), told{})
}

func TestP191WrittenOut(t *testing.T) {
	for _, c := range []struct {
		f     api.Form
		float uint64
		want  api.Dec
	}{
		// All floats of the least form: 0.5, 1, 1.5, 2, 3.
		{least, 1, dc("5", -1)}, {least, 2, dc("1", 0)}, {least, 3, dc("15", -1)}, {least, 4, dc("2", 0)}, {least, 5, dc("3", 0)},
		{half, 1, dc("6", -8)}, {half, 2, dc("1", -7)}, {half, 0x3ff, dc("61", -6)}, {half, 0x400, dc("6104", -8)}, {half, 0x3bff, dc("9995", -4)}, {half, 0x3c00, dc("1", 0)}, {half, 0x3c01, dc("1001", -3)}, {half, 0x3c02, dc("1002", -3)}, {half, 0x7bff, dc("655", 2)},
		{brain, 1, dc("9", -41)}, {brain, 0x3f80, dc("1", 0)}, {brain, 0x4049, dc("314", -2)}, {brain, 0x7f7f, dc("339", 36)},
		{single, 1, dc("1", -45)}, {single, 0x7fffff, dc("11754942", -45)}, {single, 0x800000, dc("11754944", -45)}, {single, 0x3dcccccd, dc("1", -1)}, {single, 0x40490fdb, dc("31415927", -7)}, {single, 0x4b7fffff, dc("16777215", 0)}, {single, 0x4b800000, dc("16777216", 0)}, {single, 0x7f7fffff, dc("34028235", 31)},
		{double, 1, dc("5", -324)}, {double, 2, dc("1", -323)}, {double, 3, dc("15", -324)}, {double, 1<<52 - 1, dc("2225073858507201", -323)}, {double, 1 << 52, dc("22250738585072014", -324)}, {double, 1<<52 + 1, dc("2225073858507202", -323)}, {double, 0x7fefffffffffffff, dc("17976931348623157", 292)},
	} {
		bothSigns(t, c.f, c.float, c.want)
	}
}

func TestP191WrittenOutInDouble(t *testing.T) {
	for _, c := range []struct {
		v    float64
		want api.Dec
	}{
		{1, dc("1", 0)}, {2, dc("2", 0)}, {0.5, dc("5", -1)}, {0.3, dc("3", -1)}, {0.30000000000000004, dc("30000000000000004", -17)}, {1.0 / 3, dc("3333333333333333", -16)}, {2.0 / 3, dc("6666666666666666", -16)}, {math.Pi, dc("3141592653589793", -15)}, {math.E, dc("2718281828459045", -15)},
		// Whole numbers with noughts at their end.
		{10, dc("1", 1)}, {100, dc("1", 2)}, {1200, dc("12", 2)}, {123456789000, dc("123456789", 3)}, {1e15, dc("1", 15)}, {1e22, dc("1", 22)}, {9007199254740990, dc("900719925474099", 1)}, {9007199254740991, dc("9007199254740991", 0)},
		// Just below a power of ten, and just above.
		{math.Nextafter(1, 0), dc("9999999999999999", -16)}, {math.Nextafter(1, 2), dc("10000000000000002", -16)}, {math.Nextafter(10, 0), dc("9999999999999998", -15)}, {math.Nextafter(10, 11), dc("10000000000000002", -15)}, {999999.9999999999, dc("9999999999999999", -10)}, {math.Nextafter(0.001, 0), dc("9999999999999998", -19)}, {math.Nextafter(0.001, 1), dc("10000000000000002", -19)}, {math.Nextafter(1e-300, 0), dc("9999999999999999", -316)}, {math.Nextafter(1e300, 0), dc("9999999999999999", 284)},
		// 10^p, nearest to the float, lies above it.
		{1e-5, dc("1", -5)}, {1e-7, dc("1", -7)}, {1e24, dc("1", 24)}, {1e100, dc("1", 100)}, {1e308, dc("1", 308)}, {1e-308, dc("1", -308)},
		// Below a power of two the reach is narrower: 9007199254740992.5 would be read as 2^53, 9007199254740991.5 just so, too.
		{0x1p53, dc("9007199254740992", 0)}, {0x1p60, dc("1152921504606847", 3)}, {0x1p64, dc("18446744073709552", 3)}, {0x1p-44, dc("5684341886080802", -29)}, {0x1p-1022, dc("22250738585072014", -324)},
	} {
		bothSigns(t, double, math.Float64bits(c.v), c.want)
	}
}

// The nearest whole number may lie out of the reach below a power of two; then the nearest one in it is told: 2^-44 is 5.684341886080801486..e-14, and ..801e-29 is read as the float below it.
func TestP191NearestInTheReach(t *testing.T) {
	n := 0
	for e := uint64(1); e < 2047; e++ {
		float := e << 52
		got := digitsOf(double, float)
		if want := shortest(t, double, float); got != want {
			t.Errorf("Digits(Double, %#x): %v; want %v", float, got, want)
		}
		if size := len(got.d.Digits); got.sure && someDigits(double, float, size).d != got.d {
			n++
		}
	}
	if n == 0 {
		t.Error("of all powers of two the nearest decimal is in the reach")
	}
}

// Of a number times a power of ten that is cut it is not seen that it is just the end of a reach, in it or not.
func TestP191NotSure(t *testing.T) {
	for _, v := range []float64{
		1e23,              // 10^23 is the high end, which is in the reach
		90071992547409952, // 90071992547409960 is the high end of this one, in it,
		90071992547409968, // and the low end of the next one, not in it
	} {
		notSure(t, double, math.Float64bits(v))
	}
	notSure(t, double, math.Float64bits(1e23)+1) // its low end, which is not in it
	// 4110 is the high end of 4108, whose last bit is 1, and the low end of 4112, whose last bit is 0.
	notSure(t, half, 0x6c03)
	notSure(t, half, 0x6c04)
	bothSigns(t, half, 0x6c02, dc("4104", 0))
	bothSigns(t, half, 0x7bfe, dc("6547", 1)) // 65472, from 65456 to 65488
}

func TestP191Noughts(t *testing.T) {
	for _, f := range allForms() {
		digitsAre(t, f, 0, told{sure: true})
		digitsAre(t, f, minus(f), told{d: api.Dec{Neg: true}, sure: true})
	}
}
