package quick

import (
	"math/big"
	"strconv"
	"strings"
	"testing"
)

// nearestWhole is by whole numbers: a fraction over 1, rounded once.
func nearestWhole(t *testing.T, digits string) float64 {
	t.Helper()
	n, ok := new(big.Int).SetString(digits, 10)
	if !ok {
		t.Fatalf("%q is no whole number", digits)
	}
	x, _ := new(big.Rat).SetInt(n).Float64()
	return x
}

// wholeHolds is of a text of digits, as it is and with as many noughts ahead as may be.
func wholeHolds(t *testing.T, digits string) {
	t.Helper()
	want := nearestWhole(t, digits)
	for size := len(digits); size <= 19; size++ {
		wholeIs(t, strings.Repeat("0", size-len(digits))+digits, want, true)
	}
	wholeIs(t, strings.Repeat("0", 20-len(digits))+digits, 0, false)
}

func TestP144EveryLength(t *testing.T) {
	for size := 1; size <= 19; size++ {
		for c := range 10 {
			wholeHolds(t, strings.Repeat(strconv.Itoa(c), size))
			wholeHolds(t, strconv.Itoa(c)+strings.Repeat("0", size-1))
			wholeHolds(t, strings.Repeat("0", size-1)+strconv.Itoa(c))
			wholeHolds(t, "9"+strings.Repeat(strconv.Itoa(c), size-1))
		}
	}
	wholeIs(t, "9999999999999999999", 1e19, true)
	wholeIs(t, "0000000000000000000", 0, true)
	wholeIs(t, "0000000000000000001", 1, true)
	wholeIs(t, "1000000000000000000", 1e18, true)
	wholeIs(t, "09", 9, true)
}

func TestP144SmallNumbers(t *testing.T) {
	for n := range 20000 {
		wholeIs(t, strconv.Itoa(n), float64(n), true)
	}
}

// Beyond 2^53 there are gaps: what lies in the midst of one goes to the even float.
func TestP144Halves(t *testing.T) {
	for _, c := range []struct {
		n, want uint64
	}{
		{1<<53 - 1, 1<<53 - 1}, {1 << 53, 1 << 53}, {1<<53 + 1, 1 << 53}, {1<<53 + 2, 1<<53 + 2}, {1<<53 + 3, 1<<53 + 4}, {1<<53 + 5, 1<<53 + 4},
		{1<<54 - 1, 1 << 54}, {1<<54 + 1, 1 << 54}, {1<<54 + 2, 1 << 54}, {1<<54 + 3, 1<<54 + 4}, {1<<54 + 6, 1<<54 + 8},
		{1<<63 - 1, 1 << 63}, {1<<63 - 512, 1 << 63}, {1<<63 - 513, 1<<63 - 1024}, {1 << 63, 1 << 63}, {1<<63 + 1, 1 << 63},
		{1<<63 + 1023, 1 << 63}, {1<<63 + 1024, 1 << 63}, {1<<63 + 1025, 1<<63 + 2048}, {1<<63 + 3071, 1<<63 + 2048}, {1<<63 + 3072, 1<<63 + 4096}, {1<<63 + 3073, 1<<63 + 4096},
	} {
		// A float's worth is told in tens without an exponent, and compared so.
		x, ok := Whole(strconv.FormatUint(c.n, 10))
		if got := strconv.FormatFloat(x, 'f', -1, 64); nearestWhole(t, got) != nearestWhole(t, strconv.FormatUint(c.want, 10)) || !ok {
			t.Errorf("Whole(%d): %s, %v; want %d", c.n, got, ok, c.want)
		}
	}
	for shift := uint(0); shift <= 10; shift++ {
		for _, beside := range []uint64{0, 1, 2, 3, 4, 5, 6, 7, 1<<53 - 1, 1<<53 - 2, 1<<53 - 3, 1<<52 + 1} {
			half := (1<<53 + beside) << shift
			if half < 9999999999999999999 && half > 1 {
				for _, n := range []uint64{half - 1, half, half + 1} {
					wholeHolds(t, strconv.FormatUint(n, 10))
				}
			}
		}
	}
}

func TestP144Some(t *testing.T) {
	r := source(4)
	for range 20000 {
		n := r.Uint64N(10000000000000000000) >> r.IntN(60)
		digits := strconv.FormatUint(n, 10)
		wholeHolds(t, digits)
		if want, err := strconv.ParseFloat(digits, 64); err != nil {
			t.Fatal(err)
		} else {
			wholeIs(t, digits, want, true)
		}
	}
}
