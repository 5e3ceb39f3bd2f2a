package dec

import (
	"math/big"
	"testing"

	"numeral/api"
	"numeral/nat"
)

const longestBits = api.MaxLimbs * 32

// lastTen is the greatest power of ten that has MaxLimbs limbs; the next one has more.
const lastTen = 157826

func wantsRatio(t *testing.T, what string, got api.Ratio, e api.Errno, want api.Ratio, wantErr api.Errno) {
	t.Helper()
	if wantErr != api.OK {
		want = api.Ratio{}
	}
	if e != wantErr || !sameRatio(got, want) {
		t.Errorf("%s: error %d, %d and %d limbs; want error %d, %d and %d limbs", what, int(e), len(got.Num.Limbs), len(got.Den.Limbs), int(wantErr), len(want.Num.Limbs), len(want.Den.Limbs))
	}
}

// checkRatio is for exponents that can be laid out.
func checkRatio(t *testing.T, d api.Dec) {
	t.Helper()
	num, den := asInt(d), big.NewInt(1)
	if d.Exp < 0 {
		den = tenTo(-d.Exp)
	} else {
		num.Mul(num, tenTo(d.Exp))
	}
	wantErr := api.OK
	if num.BitLen() > longestBits || den.BitLen() > longestBits {
		wantErr = api.ErrMany
	}
	got, e := Ratio(d)
	wantsRatio(t, "Ratio("+show(d)+")", got, e, ratioOf(frac(num, den)), wantErr)
}

func TestP103RatioOfSome(t *testing.T) {
	for _, d := range near() {
		checkRatio(t, d)
	}
	r := source(3)
	for range 2000 {
		checkRatio(t, some(r, 60))
	}
}

func TestP103RatioOfNoughts(t *testing.T) {
	for _, d := range []api.Dec{{}, {Neg: true}} {
		got, e := Ratio(d)
		wantsRatio(t, "Ratio of nought", got, e, api.Ratio{Den: nat.Of(1)}, api.OK)
	}
}

// The number above the line, at MaxLimbs limbs.
func TestP103RatioOfLongNumbers(t *testing.T) {
	t.Parallel()
	room := new(big.Int).Quo(power(2, longestBits), tenTo(lastTen))
	if n := room.Int64(); n < 1 || n > 9 {
		t.Fatal("another power of ten is the last one")
	}
	checkRatio(t, only(room, lastTen, false))
	checkRatio(t, only(new(big.Int).Add(room, big.NewInt(1)), lastTen, false))
	checkRatio(t, dc("-1", lastTen))
	checkRatio(t, dc("-1", lastTen+1))
	const exp = lastTen - 4
	room = new(big.Int).Quo(power(2, longestBits), tenTo(exp))
	for _, n := range []int64{-1, 0, 1, 2} {
		checkRatio(t, only(new(big.Int).Add(room, big.NewInt(n)), exp, false))
	}
	checkRatio(t, dc(again("9", most), lastTen-most))
	checkRatio(t, dc(again("9", most), lastTen-most+1))
	checkRatio(t, dc(again("1", most), lastTen-most+1))
}

// The power of ten below the line counts as it is, even if lowest terms would be short enough.
func TestP103RatioOfLongPowers(t *testing.T) {
	t.Parallel()
	for _, digits := range []string{"1", "-3", "5", "1024", again("7", 999), power(5, 90000).String()} {
		checkRatio(t, dc(digits, -lastTen))
		checkRatio(t, dc(digits, -lastTen-1))
	}
	checkRatio(t, dc(again("9", most), -lastTen))
	if d := shifted(big.NewInt(5), -lastTen-1).Denom(); d.BitLen() > longestBits {
		t.Error("in lowest terms that should be short enough")
	}
}

func TestP103RatioOfFarExponents(t *testing.T) {
	for _, exp := range []int{far, far - 1, -far, 1 - far, 1 << 20, -1 << 20, longestBits, -longestBits, longestBits - 1, 1 - longestBits} {
		for _, digits := range []string{"1", "-5", again("3", 100)} {
			got, e := Ratio(dc(digits, exp))
			wantsRatio(t, "Ratio("+show(dc(digits, exp))+")", got, e, api.Ratio{}, api.ErrMany)
		}
	}
}

// ofWant is the decimal that a fraction is, if it is one: looked for by its tens, one by one.
func ofWant(x *big.Rat) (api.Dec, bool) {
	rest := new(big.Rat).Set(x)
	ten := new(big.Rat).SetInt64(10)
	for exp := 0; exp <= x.Denom().BitLen(); exp++ {
		if rest.IsInt() {
			return only(rest.Num(), -exp, false), true
		}
		rest.Mul(rest, ten)
	}
	return api.Dec{}, false
}

func checkOf(t *testing.T, x *big.Rat, want api.Dec, wantOK bool, wantErr api.Errno) {
	t.Helper()
	what := "Of a fraction of " + x.Num().Text(10)[:1] + ".. and " + x.Denom().Text(10)[:1] + ".."
	if x.Num().BitLen()+x.Denom().BitLen() < 200 {
		what = "Of(" + x.String() + ")"
	}
	got, ok, e := Of(ratioOf(x))
	wantsTold(t, what, got, ok, e, want, wantOK, wantErr)
	got, ok, e = Of(ratioOf(new(big.Rat).Neg(x)))
	if want.Digits != "" {
		want = turned(want)
	}
	wantsTold(t, what+", turned", got, ok, e, want, wantOK, wantErr)
}

func TestP103OfSmallFractions(t *testing.T) {
	for den := int64(1); den <= 260; den++ {
		for num := int64(0); num <= 40; num++ {
			x := big.NewRat(num, den)
			want, ok := ofWant(x)
			checkOf(t, x, want, ok, api.OK)
		}
	}
	for _, n := range []int64{10, 100, 1000, 1200, 1e18, 1e18 + 1, 1 << 62, 12e17} {
		for _, den := range []int64{1, 7, 1 << 40, 5, 1e18} {
			x := big.NewRat(n, den)
			want, ok := ofWant(x)
			checkOf(t, x, want, ok, api.OK)
		}
	}
}

// Twos and fives in any numbers, with and without another factor.
func TestP103OfTwosAndFives(t *testing.T) {
	for twos := range 40 {
		for fives := range 40 {
			den := new(big.Int).Mul(power(2, twos), power(5, fives))
			for _, num := range []int64{1, 3, 1023} {
				x := frac(big.NewInt(num), den)
				want, ok := ofWant(x)
				if !ok {
					t.Fatal("no decimal")
				}
				checkOf(t, x, want, true, api.OK)
			}
			for _, other := range []int64{3, 7, 11, 1<<31 - 1} {
				checkOf(t, frac(big.NewInt(1), new(big.Int).Mul(den, big.NewInt(other))), api.Dec{}, false, api.OK)
			}
		}
	}
}

func TestP103OfSome(t *testing.T) {
	r := source(4)
	for range 300 {
		den := new(big.Int).Mul(power(2, r.IntN(300)), power(5, r.IntN(300)))
		num, _ := new(big.Int).SetString(someDigits(r, 1+r.IntN(200)), 10)
		x := frac(num, den)
		want, _ := ofWant(x)
		checkOf(t, x, want, true, api.OK)
	}
	for range 300 {
		d := some(r, 90)
		d.Neg = false
		checkOf(t, asRat(d), d, true, api.OK)
	}
}

func TestP103OfWholeNumbersAtMaxText(t *testing.T) {
	t.Parallel()
	one := big.NewInt(1)
	nines := new(big.Int).Sub(tenTo(most), one)
	checkOf(t, new(big.Rat).SetInt(nines), dc(again("9", most), 0), true, api.OK)
	// Of as many bits as that, but of one digit more.
	checkOf(t, new(big.Rat).SetInt(new(big.Int).Add(tenTo(most), one)), api.Dec{}, false, api.ErrMany)
	checkOf(t, new(big.Rat).SetInt(tenTo(most)), dc("1", most), true, api.OK)
	checkOf(t, new(big.Rat).SetInt(tenTo(lastTen)), dc("1", lastTen), true, api.OK)
	checkOf(t, new(big.Rat).SetInt(new(big.Int).Mul(nines, tenTo(lastTen-most))), dc(again("9", most), lastTen-most), true, api.OK)
	checkOf(t, new(big.Rat).SetInt(new(big.Int).Mul(big.NewInt(12), tenTo(100000))), dc("12", 100000), true, api.OK)
	checkOf(t, new(big.Rat).SetInt(new(big.Int).Sub(power(2, longestBits), one)), api.Dec{}, false, api.ErrMany)
	long := new(big.Int).Add(tenTo(most+1), big.NewInt(10))
	checkOf(t, new(big.Rat).SetInt(long), api.Dec{}, false, api.ErrMany)
	long.Sub(long, big.NewInt(20))
	checkOf(t, new(big.Rat).SetInt(long), only(long, 0, false), true, api.OK)
}

// lastPower is the exponent of the greatest power of b that has at most MaxText digits.
func lastPower(b int) int {
	low, high := 0, 4*most
	for low+1 < high {
		if mid := (low + high) / 2; power(b, mid).Cmp(tenTo(most)) < 0 {
			low = mid
		} else {
			high = mid
		}
	}
	return low
}

func TestP103OfPartsAtMaxText(t *testing.T) {
	t.Parallel()
	one, three := big.NewInt(1), big.NewInt(3)
	for _, c := range []struct{ below, above int }{{2, 5}, {5, 2}} {
		last := lastPower(c.above)
		checkOf(t, frac(one, power(c.below, last)), only(power(c.above, last), -last, false), true, api.OK)
		checkOf(t, frac(one, power(c.below, last+1)), api.Dec{}, false, api.ErrMany)
		// With tens ahead of them.
		den := new(big.Int).Mul(power(c.below, last), tenTo(5000))
		checkOf(t, frac(one, den), only(power(c.above, last), -last-5000, false), true, api.OK)
		checkOf(t, frac(one, new(big.Int).Mul(den, three)), api.Dec{}, false, api.OK)
	}
	checkOf(t, frac(one, tenTo(lastTen)), dc("1", -lastTen), true, api.OK)
	checkOf(t, frac(three, tenTo(lastTen)), dc("3", -lastTen), true, api.OK)
}

// Numbers that are too long on the way have too many digits; but what is no decimal is told ahead of that.
func TestP103OfTooLongNumbers(t *testing.T) {
	t.Parallel()
	one, three := big.NewInt(1), big.NewInt(3)
	longest := new(big.Int).Sub(power(2, longestBits), one) // odd, a multiple of five: 2^524288 is 1 beyond one
	other := new(big.Int).Sub(power(2, longestBits), three) // odd, no multiple of five
	checkOf(t, frac(one, power(2, longestBits-1)), api.Dec{}, false, api.ErrMany)
	checkOf(t, frac(one, power(5, 225798)), api.Dec{}, false, api.ErrMany)
	checkOf(t, frac(longest, power(2, 1000)), api.Dec{}, false, api.ErrMany)
	checkOf(t, frac(other, power(5, 1000)), api.Dec{}, false, api.ErrMany)
	checkOf(t, frac(other, tenTo(1000)), api.Dec{}, false, api.ErrMany)
	checkOf(t, frac(longest, power(2, longestBits-1)), api.Dec{}, false, api.ErrMany)
	checkOf(t, frac(one, new(big.Int).Mul(three, power(2, longestBits-2))), api.Dec{}, false, api.OK)
	checkOf(t, frac(one, new(big.Int).Mul(three, power(5, 225000))), api.Dec{}, false, api.OK)
	checkOf(t, frac(one, longest), api.Dec{}, false, api.OK)
	checkOf(t, frac(longest, new(big.Int).Mul(power(2, 1000), big.NewInt(7))), api.Dec{}, false, api.OK)
}

func TestP103OfNought(t *testing.T) {
	for _, num := range []api.Nat{{}, {Limbs: []uint32{}}} {
		got, ok, e := Of(api.Ratio{Num: num, Den: nat.Of(1)})
		wantsTold(t, "Of(0)", got, ok, e, api.Dec{}, true, api.OK)
	}
}

func TestP103OfWrongFractions(t *testing.T) {
	one, two := nat.Of(1), nat.Of(2)
	long := natOf(power(2, longestBits))
	for what, r := range map[string]api.Ratio{
		"the zero fraction":          {},
		"1/0":                        {Num: one},
		"2/4":                        {Num: two, Den: nat.Of(4)},
		"3/6":                        {Num: nat.Of(3), Den: nat.Of(6)},
		"-0/1":                       {Neg: true, Den: one},
		"0/2":                        {Den: two},
		"a number ending in 0":       {Num: api.Nat{Limbs: []uint32{1, 0}}, Den: two},
		"a lower one ending in 0":    {Num: one, Den: api.Nat{Limbs: []uint32{2, 0}}},
		"too long a number":          {Num: long, Den: one},
		"too long a lower one":       {Num: one, Den: long},
		"too long, and no decimal":   {Num: long, Den: nat.Of(3)},
		"too long, in no low terms":  {Num: long, Den: two},
		"none, and no lower one too": {Neg: true},
	} {
		got, ok, e := Of(r)
		wantsTold(t, "Of "+what, got, ok, e, api.Dec{}, false, api.ErrRatio)
	}
}
