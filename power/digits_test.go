package power

import (
	"math"
	"math/big"
	"math/rand/v2"
	"strconv"
	"testing"

	"numeral/api"
)

func digitsAs(t *testing.T, n uint64) {
	t.Helper()
	if d, want := Digits(n), len(strconv.FormatUint(n, 10)); d != want {
		t.Errorf("Digits(%d): %d, want %d", n, d, want)
	}
}

// Each power of ten, and what lies beside it; each power of two likewise.
func TestP133DigitsAtEveryEnd(t *testing.T) {
	ten := uint64(1)
	for range 20 {
		digitsAs(t, ten-1)
		digitsAs(t, ten)
		digitsAs(t, ten+1)
		ten *= 10
	}
	for n := range 64 {
		digitsAs(t, 1<<n-1)
		digitsAs(t, 1<<n)
		digitsAs(t, 1<<n+1)
	}
	digitsAs(t, math.MaxUint64-1)
	digitsAs(t, math.MaxUint64)
	if d := Digits(0); d != 1 {
		t.Errorf("Digits(0): %d", d)
	}
}

func TestP133DigitsOfAnyNumber(t *testing.T) {
	r := rand.New(rand.NewPCG(2, 13))
	for n := range uint64(20000) {
		digitsAs(t, n)
		digitsAs(t, r.Uint64()>>r.IntN(64))
	}
}

// Every n: 2^n is below 10 to the power of its digits, and not below ten times less.
func TestP133P136TwoOfEveryPower(t *testing.T) {
	two, ten := big.NewInt(1), big.NewInt(10)
	digits := 1
	for n := 0; n <= 65536; n++ {
		if two.Cmp(ten) >= 0 {
			ten.Mul(ten, big.NewInt(10))
			digits++
		}
		twoIs(t, n, digits)
		two.Lsh(two, 1)
	}
}

// Written out; the last digit is told by the text itself.
func TestP133TwoOfSomePowers(t *testing.T) {
	for _, c := range [][2]int{{0, 1}, {1, 1}, {3, 1}, {4, 2}, {6, 2}, {7, 3}, {9, 3}, {10, 4}, {63, 19}, {64, 20}, {93, 28}, {1023, 308}, {1024, 309}, {65535, 19729}, {65536, 19729}} {
		twoIs(t, c[0], c[1])
		if text := new(big.Int).Lsh(big.NewInt(1), uint(c[0])).String(); len(text) != c[1] {
			t.Errorf("2^%d has %d digits, not %d", c[0], len(text), c[1])
		}
	}
}

func TestP133PowersOfTwoBeyond(t *testing.T) {
	for _, n := range []int{-1, -2, -64, -65536, 65537, 65538, 1 << 17, 1 << 32, 1<<32 + 1, 1 << 62, math.MaxInt, math.MinInt} {
		if d, e := Two(n); d != 0 || e != api.ErrArg {
			t.Errorf("Two(%d): %d, error %d", n, d, int(e))
		}
	}
}
