package wide

import (
	"testing"

	"numeral/api"
)

func TestP151OrdinaryDecimals(t *testing.T) {
	for _, c := range []struct {
		f    api.Form
		d    api.Dec
		want uint64
	}{
		{tiny, dc("1", 0), 2}, {tiny, dc("3", 0), 5}, {tiny, dc("24", -1), 4}, {tiny, dc("26", -1), 5}, {tiny, dc("1", -1), 0}, {tiny, dc("3", -1), 1}, {tiny, dc("4", 0), 6},
		{half, dc("1", 0), 0x3c00}, {half, dc("-2", 0), 0xc000}, {half, dc("1", -1), 0x2e66}, {half, dc("3333", -4), 0x3555}, {half, dc("314159", -5), 0x4248}, {half, dc("2049", 0), 0x6800}, {half, dc("2051", 0), 0x6802},
		{brain, dc("1", 0), 0x3f80}, {brain, dc("314159", -5), 0x4049}, {brain, dc("1", 38), 0x7e96},
		{single, dc("1", -1), 0x3dcccccd}, {single, dc("16777217", 0), 0x4b800000}, {single, dc("-314159265", -8), 0xc0490fdb}, {single, dc("1", 38), 0x7e967699}, {single, dc("1", -45), 1},
		{double, dc("3", -1), 0x3fd3333333333333}, {double, dc("-271828182845904523536", -20), 0xc005bf0a8b145769}, {double, dc("1", 308), 0x7fe1ccf385ebc8a0}, {double, dc("12345678901234567890123456789", -9), 0x43e56a95319d63e1},
		{form(11, 1), dc("1", 0), 0x7fe}, {form(11, 1), dc("3", -1), 0x7fa}, {form(2, 52), dc("1", -1), 0x199999999999a}, {form(2, 52), dc("3", 0), 0x28000000000000},
	} {
		bitsIs(t, c.f, c.d, c.want)
		holds(t, c.f, c.d)
	}
}

// Just at a half the float with the even last bit is told, where the power of ten is whole; a bit beside, the nearer one.
func TestP151HalvesOfWholeNumbers(t *testing.T) {
	for _, c := range []struct {
		digits string
		want   uint64
	}{
		{"4611686018427388415", 0x43d0000000000000}, {"4611686018427388416", 0x43d0000000000000}, {"4611686018427388417", 0x43d0000000000001},
		{"4611686018427389441", 0x43d0000000000002}, {"4611686018427389439", 0x43d0000000000001},
		{"9007199254740991", 0x433fffffffffffff}, {"9007199254740993", 0x4340000000000000}, {"9007199254740995", 0x4340000000000002}, {"9007199254740997", 0x4340000000000002},
	} {
		bitsIs(t, double, dc(c.digits, 0), c.want)
	}
	bitsIs(t, double, dc("461168601842738944", 1), 0x43d0000000000002) // 2^62 + 1536
	for _, c := range []struct {
		digits string
		want   uint64
	}{{"2047", 0x67ff}, {"2048", 0x6800}, {"2049", 0x6800}, {"2051", 0x6802}, {"4094", 0x6bff}, {"4095", 0x6c00}, {"4097", 0x6c00}, {"4098", 0x6c00}, {"4099", 0x6c01}, {"4101", 0x6c01}, {"4102", 0x6c02}, {"65487", 0x7bfe}, {"65488", 0x7bfe}, {"65489", 0x7bff}, {"65519", 0x7bff}} {
		bitsIs(t, half, dc(c.digits, 0), c.want)
	}
	bitsIs(t, single, dc("16777217", 0), 0x4b800000)
	bitsIs(t, single, dc("16777219", 0), 0x4b800002)
}

// With further digits L stands at a half, or U does: where the half goes to the float that the other end is rounded to, that is sure; where it goes to the other side, it is not.
func TestP151OneEndAtAHalf(t *testing.T) {
	bitsUnsure(t, double, dc("46116860184273884161", -1))         // from 2^62 + 512, which goes downward
	bitsIs(t, double, dc("46116860184273884159", -1), 1085<<52)   // up to it
	bitsIs(t, double, dc("46116860184273894401", -1), 1085<<52|2) // from 2^62 + 1536, which goes upward
	bitsUnsure(t, double, dc("46116860184273894399", -1))         // up to it
	bitsIs(t, double, dc("46116860184273884171", -1), 1085<<52|1) // from beyond the half on
	bitsIs(t, double, dc("46116860184273884149", -1), 1085<<52)   // up to ahead of it
	bitsUnsure(t, double, dc("4611686018427388416000000001", -9)) // the same with digits that are farther behind
	bitsIs(t, double, dc("4611686018427388415999999999", -9), 1085<<52)
	bitsIs(t, double, dc("4611686018427389440000000001", -9), 1085<<52|2)
	bitsUnsure(t, double, dc("4611686018427389439999999999", -9))
}

// A power that is not whole has no just-there: L lies below the half, U above it.
func TestP151HalvesOfFractions(t *testing.T) {
	bitsIs(t, half, dc("100048828124", -11), 0x3c00)
	bitsUnsure(t, half, dc("100048828125", -11)) // 1 + 2^-11
	bitsIs(t, half, dc("100048828126", -11), 0x3c01)
	bitsIs(t, half, dc("100146484374", -11), 0x3c01)
	bitsUnsure(t, half, dc("100146484375", -11)) // 1 + 3 times 2^-11, which would go upward
	bitsIs(t, half, dc("100146484376", -11), 0x3c02)
	bitsIs(t, tiny, dc("12499", -4), 2)
	bitsUnsure(t, tiny, dc("125", -2))
	bitsIs(t, tiny, dc("12501", -4), 3)
	bitsUnsure(t, tiny, dc("25", -1))
	bitsIs(t, tiny, dc("2", 0), 4)
	// A float's own worth is no half: L and U lie about it.
	bitsIs(t, tiny, dc("5", -1), 1)
	bitsIs(t, tiny, dc("15", -1), 3)
	bitsIs(t, half, dc("15", -1), 0x3e00)
	bitsIs(t, half, dc("10009765625", -10), 0x3c01)
}

// Further digits decide where the first 19 say a half, and not where they say something else.
func TestP151FurtherDigits(t *testing.T) {
	bitsIs(t, double, dc("9007199254740993", 0), 0x4340000000000000)
	bitsUnsure(t, double, dc("90071992547409930000000000000000001", -19))
	bitsUnsure(t, double, dc("90071992547409930001", -4))
	bitsIs(t, double, dc("9007199254740993001", -3), 0x4340000000000001) // 19 digits are none too many
	bitsIs(t, double, dc("90071992547409930011", -4), 0x4340000000000001)
	bitsUnsure(t, double, dc("90071992547409929999", -4))
	bitsUnsure(t, double, dc("9007199254740992999999999999999999", -18))
	bitsIs(t, double, dc("9007199254740992999", -3), 0x4340000000000000)
	bitsIs(t, double, dc("90071992547409929989", -4), 0x4340000000000000)
	bitsIs(t, double, dc("90071992547409940000000000000000001", -19), 0x4340000000000001)
	bitsIs(t, double, dc("314159265358979323846264338327950288", -35), 0x400921fb54442d18)
	bitsIs(t, double, dc("90071992547409920000000000000000001", -19), 0x4340000000000000)
}

func TestP151Nines(t *testing.T) {
	nines := "9999999999999999999"
	bitsIs(t, double, dc(nines, 0), 0x43e158e460913d00)
	bitsIs(t, double, dc(nines+"9", 0), 0x4415af1d78b58c40)
	bitsIs(t, double, dc(nines+"9", -1), 0x43e158e460913d00)
	bitsIs(t, double, dc(nines, -19), 0x3ff0000000000000)
	bitsIs(t, double, dc(nines+nines, -38), 0x3ff0000000000000)
	bitsIs(t, half, dc(nines, -19), 0x3c00)
	bitsIs(t, half, dc(nines, 0), 0x7c00)
	// What lies just below 10000 is one float with it by Even.
	bitsIs(t, half, dc(nines, -15), 0x70e2)
	bitsIs(t, half, dc(nines+"1", -16), 0x70e2)
	for _, f := range someForms() {
		for k := -405; k <= 405; k += 5 {
			holds(t, f, dc(nines, k))
			holds(t, f, dc(nines+"9", k-1))
			holds(t, f, dc(nines+"1", k-1))
			holds(t, f, dc(nines+nines+nines, k-38))
		}
	}
}

// The ends of what floats there are: beyond the greatest, below the least, and the halves there.
func TestP151EndsOfFloats(t *testing.T) {
	for _, c := range []struct {
		f    api.Form
		d    api.Dec
		want uint64
	}{
		{half, dc("65504", 0), 0x7bff}, {half, dc("65505", 0), 0x7bff}, {half, dc("65519999999", -6), 0x7bff}, {half, dc("6552", 1), 0x7c00}, {half, dc("65520000001", -6), 0x7c00}, {half, dc("1", 5), 0x7c00}, {half, dc("1", 400), 0x7c00},
		{half, dc("61035", -9), 0x400}, {half, dc("6097", -8), 0x3ff}, {half, dc("610053", -10), 0x3ff}, {half, dc("610054", -10), 0x400}, {half, dc("5", -7), 8}, {half, dc("6", -8), 1}, {half, dc("59604644775390625", -24), 1},
		{half, dc("298023223876953126", -25), 1}, {half, dc("298023223876953124", -25), 0}, {half, dc("1", -8), 0}, {half, dc("1", -400), 0},
		{double, dc("17976931348623157", 292), 0x7fefffffffffffff}, {double, dc("1797693134862315807", 290), 0x7fefffffffffffff}, {double, dc("1797693134862315808", 290), 0x7ff0000000000000}, {double, dc("18", 307), 0x7ff0000000000000},
		{double, dc("22250738585072014", -324), 1 << 52}, {double, dc("2225073858507201", -323), 1<<52 - 1}, {double, dc("5", -324), 1}, {double, dc("3", -324), 1}, {double, dc("2470328229206232721", -342), 1}, {double, dc("247032822920623272", -341), 0}, {double, dc("2", -324), 0}, {double, dc("1", -400), 0},
		{single, dc("340282346638528859", 21), 0x7f7fffff}, {single, dc("34028235677973366", 22), 0x7f7fffff}, {single, dc("34028235677973367", 22), 0x7f800000}, {single, dc("117549435", -46), 0x800000}, {single, dc("7006", -49), 0}, {single, dc("7007", -49), 1}, {single, dc("70065", -50), 1},
		{tiny, dc("34999999999", -10), 5}, {tiny, dc("35000000001", -10), 6}, {tiny, dc("24999999999", -11), 0}, {tiny, dc("25000000001", -11), 1},
	} {
		bitsIs(t, c.f, c.d, c.want)
		holds(t, c.f, c.d)
	}
	bitsUnsure(t, half, dc("298023223876953125", -25))
	bitsUnsure(t, half, dc("6552000000000000000000001", -20))
	bitsUnsure(t, half, dc("6551999999999999999999999", -20))
	bitsUnsure(t, double, dc("24703282292062327208", -343))
	bitsUnsure(t, tiny, dc("35", -1))
	bitsUnsure(t, tiny, dc("25", -2))
}

func TestP151Noughts(t *testing.T) {
	for _, f := range someForms() {
		for _, c := range []struct {
			neg  bool
			want uint64
		}{{false, 0}, {true, signBit(f)}} {
			if bits, sure, e := Bits(f, api.Dec{Neg: c.neg}); bits != c.want || !sure || e != api.OK {
				t.Errorf("Bits(%v, nought, %v): %#x, %v, error %d", f, c.neg, bits, sure, int(e))
			}
		}
	}
}
