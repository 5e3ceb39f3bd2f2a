package power

import (
	"math/big"
	"slices"
	"sync"
	"testing"
)

// The 128 bits of k + 1 are those of k times ten, but for what was rounded down, with three or four twos taken out; nothing is lost as long as the power is whole.
func TestP136TheNextPower(t *testing.T) {
	ten := big.NewInt(10)
	bits, exp := tenAt(t, -most)
	for k := -most; k < most; k++ {
		next, nextExp := tenAt(t, k+1)
		twos := nextExp - exp
		if twos != 3 && twos != 4 {
			t.Errorf("from Ten(%d) to the next one exp goes up by %d", k, twos)
		}
		times := new(big.Int).Mul(bits, ten)
		lost := new(big.Int).Sub(upBy(next, twos), times)
		whole, _ := Whole(k)
		nextWhole, _ := Whole(k + 1)
		if whole && nextWhole && lost.Sign() != 0 {
			t.Errorf("Ten(%d) times ten and Ten(%d), both whole, differ by %d", k, k+1, lost)
		}
		// Of the one less than ten was lost, of the other less than 2 to the power of twos.
		if lost.Cmp(ten) >= 0 || lost.Cmp(upBy(big.NewInt(-1), twos)) <= 0 {
			t.Errorf("Ten(%d) times ten and Ten(%d) differ by %d", k, k+1, lost)
		}
		bits, exp = next, nextExp
	}
}

// Times of 1, and of every other power of two, is the 128 bits moved.
func TestP136TimesMovesTheBits(t *testing.T) {
	for k := -most; k <= most; k++ {
		hi, lo, _, _ := Ten(k)
		timesIs(t, 1, k, 0, hi, lo != 0)
		for n := 1; n < 64; n++ {
			timesIs(t, 1<<n, k, hi>>(64-n), hi<<n|lo>>(64-n), lo<<n != 0)
		}
	}
}

// Digits is Two where the number is a power of two, and one power of ten has one digit more than the one below it.
func TestP136DigitsAndTwo(t *testing.T) {
	for n := range 64 {
		twoIs(t, n, Digits(1<<n))
	}
	ten := uint64(1)
	for n := range 20 {
		if Digits(ten) != n+1 {
			t.Errorf("Digits(10^%d): %d", n, Digits(ten))
		}
		ten *= 10
	}
}

// Whoever asks first, and however many at a time: all are told the same.
func TestP136AllAreToldTheSame(t *testing.T) {
	for _, n := range []int{-most, -56, 0, 28, most} {
		hi, _, _, _ := Ten(n)
		alone, late, crowded := keeperOf(t, -most, most), keeperOf(t, -most, most), keeperOf(t, -most, most)
		keptIs(t, alone, n)
		keptIs(t, late, 3)
		keptIs(t, late, n)
		var all sync.WaitGroup
		told := make([][]uint64, 4)
		for i := range told {
			all.Go(func() { told[i], _ = crowded.Crowd(n, 4*(i+1)) })
		}
		all.Wait()
		for i, l := range told {
			if len(l) != 4*(i+1) || slices.Min(l) != hi || slices.Max(l) != hi {
				t.Errorf("crowd %d at %d: %x", i, n, l)
			}
		}
		madeIs(t, alone, 1)
		madeIs(t, late, 1)
		madeIs(t, crowded, 1)
		keptIs(t, crowded, n)
	}
}

// What was answered once is answered again.
func TestP131P132P133TheSameAgain(t *testing.T) {
	for _, k := range []int{-most, -1, 0, 27, 28, 55, 56, most, most + 1} {
		hi, lo, exp, e := Ten(k)
		top, low, more, te := Times(7, k)
		keeperOf(t, -9, 9).Ten(k)
		if h, l, x, again := Ten(k); h != hi || l != lo || x != exp || again != e {
			t.Errorf("Ten(%d): %x %x, %d, error %d, then %x %x, %d, error %d", k, hi, lo, exp, int(e), h, l, x, int(again))
		}
		if h, l, m, again := Times(7, k); h != top || l != low || m != more || again != te {
			t.Errorf("Times(7, %d): %x %x %v, then %x %x %v", k, top, low, more, h, l, m)
		}
	}
	for _, n := range []int{-1, 0, 1024, 65536, 65537} {
		d, e := Two(n)
		if again, f := Two(n); again != d || f != e {
			t.Errorf("Two(%d): %d, error %d, then %d, error %d", n, d, int(e), again, int(f))
		}
	}
}
