package nat

import (
	"math"
	"math/big"
	"testing"

	"numeral/api"
)

func TestP16Pow(t *testing.T) {
	for _, b := range []uint32{0, 1, 2, 3, 5, 7, 10, 0x80000000, 0xffffffff} {
		for n := range 70 {
			p, e := Pow(b, n)
			same(t, "Pow", p, e, new(big.Int).Exp(big.NewInt(int64(b)), big.NewInt(int64(n)), nil))
		}
	}
	ten, e := Pow(10, 20)
	same(t, "Pow(10, 20)", ten, e, asBig(number(t, "100000000000000000000")))
	one, e := Pow(0, 0)
	same(t, "Pow(0, 0)", one, e, big.NewInt(1))
	for _, n := range []int{1 << 62, math.MaxInt} {
		p, e := Pow(1, n)
		same(t, "a power of 1", p, e, big.NewInt(1))
		p, e = Pow(0, n)
		same(t, "a power of 0", p, e, new(big.Int))
	}
}

func TestP16BelowNought(t *testing.T) {
	for _, b := range []uint32{0, 1, 2, 0xffffffff} {
		for _, n := range []int{-1, math.MinInt} {
			p, e := Pow(b, n)
			refused(t, "Pow below nought", p, e, api.ErrArg)
		}
	}
}

// Of each base the last power that fits, and the next one.
func TestP16Many(t *testing.T) {
	for b, last := range map[uint32]int{2: 524287, 3: 330788, 10: 157826, 65536: 32767, 0x80000000: 16912, 0xffffffff: 16384} {
		p, e := Pow(b, last)
		same(t, "the last power", p, e, new(big.Int).Exp(big.NewInt(int64(b)), big.NewInt(int64(last)), nil))
		p, e = Pow(b, last+1)
		refused(t, "one more", p, e, api.ErrMany)
	}
	for _, n := range []int{524287, 524288, 1 << 50, math.MaxInt} {
		p, e := Pow(7, n)
		refused(t, "far too many", p, e, api.ErrMany)
	}
	p, _ := Pow(2, 524287)
	if n, e := Bits(p); n != 524288 || e != api.OK {
		t.Error("2^524287 has 524288 bits; got", n, int(e))
	}
}
