package wide

import (
	"testing"

	"numeral/api"
)

func TestP152OrdinaryDecimals(t *testing.T) {
	for _, c := range []struct {
		f         api.Form
		d         api.Dec
		low, high uint64
	}{
		{tiny, dc("1", -1), 0, 1}, {tiny, dc("6", -1), 1, 2}, {tiny, dc("12", -1), 2, 3}, {tiny, dc("24", -1), 4, 5}, {tiny, dc("31", -1), 5, 6}, {tiny, dc("4", 0), 5, 6},
		{half, dc("1", -1), 0x2e66, 0x2e67}, {half, dc("3333", -4), 0x3555, 0x3556}, {half, dc("-314159", -5), 0xc249, 0xc248}, {half, dc("2049", 0), 0x6800, 0x6801}, {half, dc("2051", 0), 0x6801, 0x6802},
		{brain, dc("314159", -5), 0x4049, 0x404a}, {single, dc("1", -1), 0x3dcccccc, 0x3dcccccd}, {single, dc("16777217", 0), 0x4b800000, 0x4b800001},
		{double, dc("3", -1), 0x3fd3333333333333, 0x3fd3333333333334}, {double, dc("1", 23), 0x44b52d02c7e14af6, 0x44b52d02c7e14af7}, {double, dc("9007199254740993", 0), 0x4340000000000000, 0x4340000000000001},
		{form(11, 1), dc("3", -1), 0x7fa, 0x7fb}, {form(2, 52), dc("1", -1), 0x1999999999999, 0x199999999999a},
	} {
		betweenIs(t, c.f, c.d, c.low, c.high)
		holds(t, c.f, c.d)
	}
}

// What is just a float's worth is told twice, where the power of ten is whole.
func TestP152OneFloat(t *testing.T) {
	for _, c := range []struct {
		f    api.Form
		d    api.Dec
		want uint64
	}{
		{tiny, dc("1", 0), 2}, {tiny, dc("2", 0), 4}, {tiny, dc("-3", 0), 13}, {half, dc("15", 0), 0x4b80}, {half, dc("-15", 0), 0xcb80}, {half, dc("65504", 0), 0x7bff}, {half, dc("1", 3), 0x63d0}, {half, dc("2048", 0), 0x6800},
		{single, dc("16777216", 0), 0x4b800000}, {single, dc("1", 10), 0x501502f9}, {double, dc("1", 22), 0x4480f0cf064dd592}, {double, dc("9007199254740991", 0), 0x433fffffffffffff}, {double, dc("4611686018427387904", 0), 1085 << 52}, {double, dc("9223372036854775808", 0), 1086 << 52},
	} {
		betweenIs(t, c.f, c.d, c.want, c.want)
		bitsIs(t, c.f, c.d, c.want)
	}
}

// L and U on two sides of a float: from the float below it to the one above it is too far.
func TestP152AFloatBetweenTheEnds(t *testing.T) {
	betweenUnsure(t, half, dc("15", -1))
	betweenUnsure(t, half, dc("10009765625", -10))
	betweenUnsure(t, half, dc("59604644775390625", -24)) // the least float
	betweenUnsure(t, half, dc("6103515625", -14))        // the least normal one
	betweenUnsure(t, half, dc("655040000000000000000000001", -22))
	betweenUnsure(t, tiny, dc("5", -1))
	betweenUnsure(t, tiny, dc("29999999999999999999999", -22))
	betweenUnsure(t, double, dc("5", -1))
	betweenUnsure(t, double, dc("90071992547409920000000000000000001", -19))
	betweenUnsure(t, double, dc("90071992547409919999999999999999999", -19))
	// 2^87 lies between the first 19 of its digits and one more, times 10^8.
	betweenUnsure(t, double, dc("154742504910672534362390528", 0))
	betweenIs(t, double, dc("1547425049106725343", 8), 0x455fffffffffffff, 0x4560000000000000)
	betweenIs(t, double, dc("1547425049106725344", 8), 0x4560000000000000, 0x4560000000000001)
}

// With further digits behind a power that is whole, L is a float's worth, or U is.
func TestP152AFloatAtOneEnd(t *testing.T) {
	betweenIs(t, double, dc("10000000000000000001", -1), 0x43abc16d674ec800, 0x43abc16d674ec801) // from 10^18 on
	betweenIs(t, double, dc("99999999999999999995", -1), 0x43e158e460913cff, 0x43e158e460913d00) // up to 10^19
	betweenIs(t, double, dc("99999999999999999999", 0), 0x4415af1d78b58c3f, 0x4415af1d78b58c40)  // up to 10^20
	betweenIs(t, double, dc("46116860184273879041", -1), 1085<<52, 1085<<52|1)                   // from 2^62 on
	betweenIs(t, double, dc("46116860184273879039", -1), 1085<<52-1, 1085<<52)                   // up to it
	betweenIs(t, double, dc("4611686018427387904000000001", -9), 1085<<52, 1085<<52|1)
	betweenIs(t, double, dc("4611686018427387903999999999", -9), 1085<<52-1, 1085<<52)
	betweenIs(t, double, dc("46116860184273879049", -1), 1085<<52, 1085<<52|1)
	betweenIs(t, single, dc("46116860184273879041", -1), 189<<23, 189<<23|1)
}

// The ends of what floats there are. The greatest float is the last one that Down tells, infinity the last one by Up.
func TestP152EndsOfFloats(t *testing.T) {
	for _, c := range []struct {
		f         api.Form
		d         api.Dec
		low, high uint64
	}{
		{half, dc("65504", 0), 0x7bff, 0x7bff}, {half, dc("65505", 0), 0x7bff, 0x7c00}, {half, dc("65519", 0), 0x7bff, 0x7c00}, {half, dc("6552", 1), 0x7bff, 0x7c00}, {half, dc("65535", 0), 0x7bff, 0x7c00}, {half, dc("65536", 0), 0x7bff, 0x7c00}, {half, dc("65537", 0), 0x7bff, 0x7c00},
		{half, dc("1", 400), 0x7bff, 0x7c00}, {half, dc("65503999", -3), 0x7bfe, 0x7bff}, {half, dc("655040001", -4), 0x7bff, 0x7c00},
		{half, dc("1", -400), 0, 1}, {half, dc("5", -8), 0, 1}, {half, dc("6", -8), 1, 2}, {half, dc("6103", -8), 0x3ff, 0x400}, {half, dc("6104", -8), 0x400, 0x401}, {half, dc("6098", -8), 0x3ff, 0x400},
		{double, dc("1", 400), 0x7fefffffffffffff, 0x7ff0000000000000}, {double, dc("18", 307), 0x7fefffffffffffff, 0x7ff0000000000000}, {double, dc("17976931348623157", 292), 0x7feffffffffffffe, 0x7fefffffffffffff}, {double, dc("17976931348623158", 292), 0x7fefffffffffffff, 0x7ff0000000000000},
		{double, dc("1", -400), 0, 1}, {double, dc("4", -324), 0, 1}, {double, dc("5", -324), 1, 2}, {double, dc("22250738585072014", -324), 1 << 52, 1<<52 + 1}, {double, dc("22250738585072013", -324), 1<<52 - 1, 1 << 52},
		{double, dc("-1", 400), 0xfff0000000000000, 0xffefffffffffffff}, {double, dc("-1", -400), 0x8000000000000001, 0x8000000000000000}, {half, dc("-6552", 1), 0xfc00, 0xfbff},
		{tiny, dc("35", -1), 5, 6}, {tiny, dc("3", 0), 5, 5}, {tiny, dc("4", 0), 5, 6}, {tiny, dc("25", -2), 0, 1},
	} {
		betweenIs(t, c.f, c.d, c.low, c.high)
		holds(t, c.f, c.d)
	}
}

// A half of the last place is nothing special here: two floats lie about it.
func TestP152Halves(t *testing.T) {
	betweenIs(t, half, dc("100048828125", -11), 0x3c00, 0x3c01)
	betweenIs(t, half, dc("100146484375", -11), 0x3c01, 0x3c02)
	betweenIs(t, half, dc("298023223876953125", -25), 0, 1)
	betweenIs(t, double, dc("4611686018427388416", 0), 1085<<52, 1085<<52|1)
	betweenIs(t, double, dc("46116860184273884161", -1), 1085<<52, 1085<<52|1)
	betweenIs(t, double, dc("90071992547409930000000000000000001", -19), 0x4340000000000000, 0x4340000000000001)
}

func TestP152Noughts(t *testing.T) {
	for _, f := range someForms() {
		for _, c := range []struct {
			neg  bool
			want uint64
		}{{false, 0}, {true, signBit(f)}} {
			if low, high, sure, e := Between(f, api.Dec{Neg: c.neg}); low != c.want || high != c.want || !sure || e != api.OK {
				t.Errorf("Between(%v, nought, %v): %#x, %#x, %v, error %d", f, c.neg, low, high, sure, int(e))
			}
		}
	}
}
