package power

import (
	"math"
	"math/big"
	"math/rand/v2"
	"testing"

	"numeral/api"
)

// someFactors are the ends, single bits, and such as come by chance.
func someFactors(r *rand.Rand) []uint64 {
	factors := []uint64{0, 1, 2, 3, 5, 10, 1 << 32, 1<<32 - 1, 1<<53 - 1, 1 << 62, 1 << 63, 1<<63 + 1, math.MaxUint64 - 1, math.MaxUint64}
	for range 40 {
		factors = append(factors, r.Uint64(), r.Uint64()>>r.IntN(64))
	}
	return factors
}

// The product worked out as one whole number, cut into the highest 128 bits and the other 64.
func TestP132TimesIsTheProduct(t *testing.T) {
	r := rand.New(rand.NewPCG(1, 13))
	word := new(big.Int).Lsh(big.NewInt(1), 64)
	for k := -most; k <= most; k++ {
		bits, _ := tenAt(t, k)
		for _, m := range someFactors(r) {
			product := new(big.Int).Mul(bits, new(big.Int).SetUint64(m))
			top, rest := new(big.Int).QuoRem(product, word, new(big.Int))
			high, low := new(big.Int).QuoRem(top, word, new(big.Int))
			timesIs(t, m, k, high.Uint64(), low.Uint64(), rest.Sign() != 0)
		}
	}
}

// Written out, with and without bits among the lowest 64: first where the lower halves carry nothing into the highest word, then where they do.
func TestP132CarriesAndRests(t *testing.T) {
	timesIs(t, 1, 0, 0, 0x8000000000000000, false)
	timesIs(t, 1, 55, 0, 0xd0cf4b50cfe20765, true)
	timesIs(t, 1, -most, 0, 0x95fe7e07c91efafa, true)
	timesIs(t, 1<<63, 0, 0x4000000000000000, 0, false)
	timesIs(t, 1<<63, -1, 0x6666666666666666, 0x6666666666666666, false)
	timesIs(t, math.MaxUint64, 0, 0x7fffffffffffffff, 0x8000000000000000, false)
	timesIs(t, 2, 28, 1, 0x027e72f1f1281308, true)
	timesIs(t, 4, 28, 2, 0x04fce5e3e2502611, false)
	timesIs(t, 5, -1, 3, 0xffffffffffffffff, true)
	timesIs(t, 0xb0c11fdf2e4738e0, 28, 0x593cf844d47f3634, 0x27ebd8f20acb01b8, false)
	timesIs(t, 0xde527107814e8a30, 29, 0x8c4e0ff2035dd95e, 0x135492cf604a381f, false)
	timesIs(t, math.MaxUint64-1, -1, 0xcccccccccccccccb, 0x3333333333333332, true)
	timesIs(t, math.MaxUint64, 55, 0xd0cf4b50cfe20765, 0x2f256993275fc807, true)
}

// inverse is what an odd number is multiplied by to have 1 as its lowest 64 bits: each step makes twice as many of them right.
func inverse(odd uint64) uint64 {
	n := odd
	for range 5 {
		n *= 2 - odd*n
	}
	return n
}

// One single bit among the lowest 64, any of them, is something, too.
func TestP132OneBitIsLeft(t *testing.T) {
	odd := 0
	for k := -most; k <= most; k++ {
		_, lo, _, _ := Ten(k)
		if lo%2 == 0 {
			continue
		}
		odd++
		for n := range 64 {
			m := inverse(lo) << n
			if m*lo != 1<<n {
				t.Fatalf("%x times %x", m, lo)
			}
			if _, _, more, e := Times(m, k); !more || e != api.OK {
				t.Errorf("Times(%x, %d): nothing is left, error %d", m, k, int(e))
			}
		}
	}
	if odd < 100 {
		t.Errorf("of %d powers alone the 128 bits are odd", odd)
	}
}

func TestP132PowersThatAreNotKept(t *testing.T) {
	for _, k := range beyond() {
		for _, m := range []uint64{0, 1, math.MaxUint64} {
			if hi, lo, more, e := Times(m, k); hi != 0 || lo != 0 || more || e != api.ErrPower {
				t.Errorf("Times(%x, %d): %x %x %v, error %d", m, k, hi, lo, more, int(e))
			}
		}
	}
}
