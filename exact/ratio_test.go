package exact

import (
	"math/big"
	"slices"
	"testing"

	"numeral/api"
)

// fraction is the one form of a number.
func fraction(x *big.Rat) api.Ratio {
	return api.Ratio{Neg: x.Sign() < 0, Num: natOf(x.Num()), Den: natOf(x.Denom())}
}

func sameRatio(a, b api.Ratio) bool {
	return a.Neg == b.Neg && slices.Equal(a.Num.Limbs, b.Num.Limbs) && slices.Equal(a.Den.Limbs, b.Den.Limbs)
}

func wantsRatio(t *testing.T, what string, got api.Ratio, e api.Errno, want api.Ratio, wantErr api.Errno) {
	t.Helper()
	if e != wantErr || !sameRatio(got, want) {
		t.Errorf("%s: %v, %d over %d limbs, error %d; want %v, %d over %d limbs, error %d", what, got.Neg, len(got.Num.Limbs), len(got.Den.Limbs), int(e), want.Neg, len(want.Num.Limbs), len(want.Den.Limbs), int(wantErr))
	}
}

func TestP47Ratio(t *testing.T) {
	r := source(9)
	for range 2000 {
		d := some(r, 4)
		got, e := Ratio(d)
		wantsRatio(t, "Ratio of "+show(d), got, e, fraction(asRat(d)), api.OK)
	}
	got, e := Ratio(api.Dyadic{Mant: api.Nat{Limbs: []uint32{}}})
	wantsRatio(t, "Ratio of nought", got, e, fraction(new(big.Rat)), api.OK)
	for _, w := range wrongDyadics() {
		got, e := Ratio(w.d)
		wantsRatio(t, "Ratio of "+w.what, got, e, api.Ratio{}, w.e)
	}
}

func TestP47RatioAtMaxLimbs(t *testing.T) {
	for _, c := range []struct {
		what     string
		d        api.Dyadic
		num, den *big.Int
	}{
		{"2^524287", dy(1, maxBits-1), twoTo(maxBits - 1), big.NewInt(1)},
		{"2^-524287", dy(-1, 1-maxBits), big.NewInt(-1), twoTo(maxBits - 1)},
		{"3 x 2^524286", dy(3, maxBits-2), new(big.Int).Mul(big.NewInt(3), twoTo(maxBits-2)), big.NewInt(1)},
		{"3 x 2^-524287", dy(3, 1-maxBits), big.NewInt(3), twoTo(maxBits - 1)},
		{"the longest", great(longest(), 0), longest(), big.NewInt(1)},
		{"the longest, long below too", great(turned(longest()), 1-maxBits), turned(longest()), twoTo(maxBits - 1)},
	} {
		got, e := Ratio(c.d)
		want := api.Ratio{Neg: c.num.Sign() < 0, Num: natOf(c.num), Den: natOf(c.den)}
		wantsRatio(t, "Ratio of "+c.what, got, e, want, api.OK)
	}
	for _, d := range []api.Dyadic{dy(1, maxBits), dy(-1, -maxBits), dy(3, maxBits-1), great(longest(), 1), great(longest(), -maxBits), dy(1, far), dy(1, -far), great(longest(), far), great(turned(longest()), -far)} {
		got, e := Ratio(d)
		wantsRatio(t, "Ratio of "+show(d), got, e, api.Ratio{}, api.ErrMany)
	}
}

func checkOf(t *testing.T, what string, r api.Ratio, want api.Dyadic, ok bool, wantErr api.Errno) {
	t.Helper()
	got, there, e := Of(r)
	wants(t, "Of "+what, got, e, want, wantErr)
	if there != ok {
		t.Errorf("Of %s: %v", what, there)
	}
}

func TestP47Of(t *testing.T) {
	r := source(10)
	for range 2000 {
		d := some(r, 4)
		checkOf(t, show(d), fraction(asRat(d)), d, true, api.OK)
		den := asInt(some(r, 3))
		if den.Sign() == 0 {
			continue
		}
		x := new(big.Rat).SetFrac(asInt(d), den)
		// Den is a power of two just if it is the one that has its last bit alone.
		if low := x.Denom().TrailingZeroBits(); x.Denom().Cmp(twoTo(int(low))) != 0 {
			checkOf(t, x.String(), fraction(x), api.Dyadic{}, false, api.OK)
		} else {
			checkOf(t, x.String(), fraction(x), only(x.Num(), -int(low)), true, api.OK)
		}
	}
	checkOf(t, "nought", api.Ratio{Num: api.Nat{Limbs: []uint32{}}, Den: limbs(1)}, api.Dyadic{}, true, api.OK)
}

func TestP47OfEdges(t *testing.T) {
	one := limbs(1)
	for _, c := range []struct {
		what string
		r    api.Ratio
		want api.Dyadic
		ok   bool
	}{
		{"3/2^32", api.Ratio{Num: limbs(3), Den: limbs(0, 1)}, dy(3, -32), true},
		{"3/2^31", api.Ratio{Num: limbs(3), Den: limbs(1 << 31)}, dy(3, -31), true},
		{"1/(2^32 + 1)", api.Ratio{Num: one, Den: limbs(1, 1)}, api.Dyadic{}, false},
		{"1/(2^33 + 2^32)", api.Ratio{Num: one, Den: limbs(0, 3)}, api.Dyadic{}, false},
		{"1/(2^64 + 2^32)", api.Ratio{Num: one, Den: limbs(0, 1, 1)}, api.Dyadic{}, false},
		{"-5/6", api.Ratio{Neg: true, Num: limbs(5), Den: limbs(6)}, api.Dyadic{}, false},
		{"-96", api.Ratio{Neg: true, Num: limbs(96), Den: one}, dy(-3, 5), true},
		{"2^524287", api.Ratio{Num: natOf(twoTo(maxBits - 1)), Den: one}, dy(1, maxBits-1), true},
		{"2^-524287", api.Ratio{Num: one, Den: natOf(twoTo(maxBits - 1))}, dy(1, 1-maxBits), true},
		{"1 over the longest", api.Ratio{Num: one, Den: natOf(longest())}, api.Dyadic{}, false},
		{"the longest", api.Ratio{Num: natOf(longest()), Den: one}, great(longest(), 0), true},
		{"the longest over 2^524287", api.Ratio{Num: natOf(longest()), Den: natOf(twoTo(maxBits - 1))}, great(longest(), 1-maxBits), true},
	} {
		checkOf(t, c.what, c.r, c.want, c.ok, api.OK)
	}
}

// Whatever a fraction lacks, the error is ratio's own.
func TestP47OfWrongFractions(t *testing.T) {
	one := limbs(1)
	for what, r := range map[string]api.Ratio{
		"the zero Ratio":        {},
		"2/4":                   {Num: limbs(2), Den: limbs(4)},
		"-6/9":                  {Neg: true, Num: limbs(6), Den: limbs(9)},
		"0/2":                   {Den: limbs(2)},
		"-0":                    {Neg: true, Den: one},
		"1/0":                   {Num: one},
		"Num's last limb is 0":  {Num: limbs(1, 0), Den: one},
		"Den's last limb is 0":  {Num: one, Den: limbs(1, 0)},
		"Num of too many limbs": {Num: tooLong(), Den: one},
		"Den of too many limbs": {Num: one, Den: tooLong()},
	} {
		checkOf(t, what, r, api.Dyadic{}, false, api.ErrRatio)
	}
}
