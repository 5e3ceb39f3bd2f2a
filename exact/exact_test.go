package exact

import (
	"math"
	"math/big"
	"strconv"
	"testing"

	"numeral/api"
)

func TestP41Check(t *testing.T) {
	for _, w := range wrongDyadics() {
		if e := Check(w.d); e != w.e {
			t.Errorf("Check of %s: error %d, want %d", w.what, int(e), int(w.e))
		}
	}
	for what, d := range map[string]api.Dyadic{
		"nought, nil limbs":         {},
		"nought, empty limbs":       {Mant: api.Nat{Limbs: []uint32{}}},
		"1":                         dy(1, 0),
		"-1":                        dy(-1, 0),
		"3 x 2^far":                 dy(3, far),
		"-3 x 2^-far":               dy(-3, -far),
		"2^32 + 1":                  dy(1<<32+1, 7),
		"the longest number":        great(longest(), far),
		"2^(its bits - 1) and 1":    great(plus(twoTo(maxBits-1), 1), -far),
		"one limb with all bits":    dy(math.MaxUint32, 1),
		"the longest, below nought": great(turned(longest()), 0),
	} {
		if e := Check(d); e != api.OK {
			t.Errorf("Check of %s: error %d", what, int(e))
		}
	}
	r := source(1)
	for range 500 {
		if d := some(r, 5); Check(d) != api.OK {
			t.Error("Check refuses", show(d))
		}
	}
}

// makeWant is what Make owes, by numbers of any size.
func makeWant(n *big.Int, exp int) (api.Dyadic, api.Errno) {
	d := only(n, 0)
	sum := plus(big.NewInt(int64(exp)), int64(d.Exp))
	if n.Sign() == 0 {
		return api.Dyadic{}, api.OK
	}
	if sum.CmpAbs(big.NewInt(far)) > 0 {
		return api.Dyadic{}, api.ErrMany
	}
	d.Exp = int(sum.Int64())
	return d, api.OK
}

func checkMake(t *testing.T, n *big.Int, exp int) {
	t.Helper()
	got, e := Make(n.Sign() < 0, natOf(n), exp)
	want, wantErr := makeWant(n, exp)
	wants(t, "Make with the exponent "+strconv.Itoa(exp), got, e, want, wantErr)
}

func TestP41Make(t *testing.T) {
	r := source(2)
	for range 3000 {
		n := someInt(r, 5)
		checkMake(t, n, r.IntN(2000)-1000)
		checkMake(t, n.Mul(n, twoTo(r.IntN(100))), r.IntN(2000)-1000)
	}
}

// Around both ends, and for any int, the sum of exponents is the one that counts, without a wrap.
func TestP41MakeExponents(t *testing.T) {
	ends := []int{0, far, -far, math.MaxInt, math.MinInt, math.MaxInt32, math.MinInt32, 1 << 62, -1 << 62, -far - maxBits, far - maxBits}
	for _, n := range []*big.Int{big.NewInt(0), big.NewInt(1), big.NewInt(-1), big.NewInt(6), big.NewInt(-96), twoTo(31), twoTo(32), twoTo(33), twoTo(64), turned(twoTo(100)), twoTo(maxBits - 1), longest(), plus(longest(), -1)} {
		twos := 0
		if n.Sign() != 0 {
			twos = int(n.TrailingZeroBits())
		}
		for _, end := range ends {
			for step := -2; step <= 2; step++ {
				checkMake(t, n, end+step)
				checkMake(t, n, end-twos+step)
			}
		}
	}
}

func TestP41MakeOfNought(t *testing.T) {
	for _, exp := range []int{0, 7, -7, far, far + 1, -far - 1, math.MaxInt, math.MinInt} {
		for _, none := range []api.Nat{{}, {Limbs: []uint32{}}} {
			got, e := Make(true, none, exp)
			wants(t, "Make of nought with a sign", got, e, api.Dyadic{}, api.OK)
			got, e = Make(false, none, exp)
			wants(t, "Make of nought", got, e, api.Dyadic{}, api.OK)
		}
	}
}

// A number that may not be comes ahead of an exponent beyond the ends.
func TestP41MakeOfWrongNumbers(t *testing.T) {
	for _, exp := range []int{0, far + 1, -far - 1, math.MaxInt, math.MinInt} {
		for _, neg := range []bool{false, true} {
			got, e := Make(neg, limbs(1, 0), exp)
			wants(t, "Make of a last limb 0", got, e, api.Dyadic{}, api.ErrNat)
			got, e = Make(neg, limbs(0), exp)
			wants(t, "Make of nought with a limb", got, e, api.Dyadic{}, api.ErrNat)
			got, e = Make(neg, tooLong(), exp)
			wants(t, "Make of what is too long", got, e, api.Dyadic{}, api.ErrMany)
			got, e = Make(neg, api.Nat{Limbs: make([]uint32, api.MaxLimbs+1)}, exp)
			wants(t, "Make of too many limbs of 0", got, e, api.Dyadic{}, api.ErrMany)
		}
	}
}

func TestP46Neg(t *testing.T) {
	r := source(3)
	for range 300 {
		d := some(r, 5)
		got, e := Neg(d)
		wants(t, "Neg of "+show(d), got, e, great(turned(asInt(d)), d.Exp), api.OK)
	}
	for _, d := range []api.Dyadic{{}, {Mant: api.Nat{Limbs: []uint32{}}}} {
		got, e := Neg(d)
		wants(t, "Neg of nought", got, e, api.Dyadic{}, api.OK)
	}
	for _, exp := range []int{far, -far} {
		got, e := Neg(great(longest(), exp))
		wants(t, "Neg of the longest", got, e, great(turned(longest()), exp), api.OK)
		got, e = Neg(great(turned(longest()), exp))
		wants(t, "Neg of the longest, below nought", got, e, great(longest(), exp), api.OK)
	}
	for _, w := range wrongDyadics() {
		got, e := Neg(w.d)
		wants(t, "Neg of "+w.what, got, e, api.Dyadic{}, w.e)
	}
}
