package short

import (
	"math/big"
	"slices"
	"strings"
	"testing"

	"numeral/api"
)

// fractions are some between -2 and 11, in their order: noughts and ones, tenths, thirds, such as lie in the middle of two decimals.
func fractions() []*big.Rat {
	var all []*big.Rat
	for _, text := range []string{"-2", "-19/20", "-1/2", "-1/3", "-1/7", "-1/1000", "0", "1/3000", "1/11", "19/200", "1/10", "1/4", "1/3", "2/5", "9/10", "19/20", "1", "5/4", "3/2", "29/3", "10", "21/2"} {
		all = append(all, rat(text))
	}
	return all
}

// All intervals of these, with each end in and out, for all of these.
func TestP183SmallFractions(t *testing.T) {
	t.Parallel()
	for _, low := range fractions() {
		for _, high := range fractions() {
			for _, s := range (span{low: low, high: high}).flags() {
				for _, at := range fractions() {
					withinHolds(t, s, at)
				}
			}
		}
	}
}

// row is an interval with both ends in, a number in it, and its best decimal.
type row struct {
	low, high, at string
	want          api.Dec
}

func (c row) span(lowIn, highIn bool) span { return span{rat(c.low), rat(c.high), lowIn, highIn} }

// are wants these rows, and those with their signs turned.
func are(t *testing.T, lowIn, highIn bool, rows []row) {
	t.Helper()
	for _, c := range rows {
		s, at := c.span(lowIn, highIn), rat(c.at)
		withinIs(t, s, at, told{c.want, true, api.OK})
		want := c.want
		want.Neg = want.Digits != ""
		withinIs(t, s.mirror(), turnedRat(at), told{want, true, api.OK})
	}
}

// Of two decimals that are as near the even one is taken, of 9 and 10 the one nearer to nought.
func TestP183TwoAsNear(t *testing.T) {
	are(t, true, true, []row{
		{"9/10", "1", "19/20", dc("9", -1)},
		{"9", "10", "19/2", dc("9", 0)},
		{"90", "100", "95", dc("9", 1)},
		{"9/1000", "1/100", "19/2000", dc("9", -3)},
		{"1", "2", "3/2", dc("2", 0)},
		{"2", "3", "5/2", dc("2", 0)},
		{"3", "4", "7/2", dc("4", 0)},
		{"8", "9", "17/2", dc("8", 0)},
		{"7/100", "8/100", "75/1000", dc("8", -2)},
		{"12/10", "13/10", "5/4", dc("12", -1)},
		{"13/10", "14/10", "27/20", dc("14", -1)},
		{"118/100", "119/100", "1185/1000", dc("118", -2)},
		{"1234/1000", "1235/1000", "12345/10000", dc("1234", -3)},
		{"1235/1000", "1236/1000", "12355/10000", dc("1236", -3)},
	})
	// With one of them out the other one is taken.
	are(t, true, false, []row{{"9/10", "1", "19/20", dc("9", -1)}, {"3", "4", "7/2", dc("3", 0)}, {"2", "3", "5/2", dc("2", 0)}})
	are(t, false, true, []row{{"9/10", "1", "19/20", dc("1", 0)}, {"3", "4", "7/2", dc("4", 0)}, {"2", "3", "5/2", dc("3", 0)}})
	// With both out there are more digits.
	are(t, false, false, []row{{"9/10", "1", "19/20", dc("95", -2)}, {"3", "4", "7/2", dc("35", -1)}, {"9/10", "1", "951/1000", dc("95", -2)}})
}

func TestP183WrittenOut(t *testing.T) {
	are(t, true, true, []row{
		{"1/3", "1/2", "2/5", dc("4", -1)},
		{"1/3", "1/2", "1/3", dc("4", -1)},
		{"1/3", "1/2", "1/2", dc("5", -1)},
		{"1/3", "1/2", "9/20", dc("4", -1)},
		{"1/3", "1/2", "46/100", dc("5", -1)},
		{"1/7", "1/6", "1/7", dc("15", -2)},
		{"1/7", "1/6", "1/6", dc("16", -2)},
		{"99/10", "101/10", "10", dc("1", 1)},
		{"99/10", "101/10", "99/10", dc("1", 1)},
		{"98/100", "199/100", "1", dc("1", 0)},
		{"1", "1000000", "123456", dc("1", 5)},
		{"1", "1000000", "999999", dc("1", 6)},
		{"1/1000000", "1", "1/3000", dc("3", -4)},
		{"12345", "12345", "12345", dc("12345", 0)},
		{"1200", "1200", "1200", dc("12", 2)},
		{"1/8", "1/8", "1/8", dc("125", -3)},
		{"1000000007/1000000000", "1000000008/1000000000", "10000000074/10000000000", dc("1000000007", -9)},
	})
	are(t, false, false, []row{
		{"0", "1/1000", "1/3000", dc("3", -4)},
		{"0", "1", "1/3000000000000", dc("3", -13)},
		{"0", "1", "96/100", dc("9", -1)},
		{"0", "1/10", "96/1000", dc("9", -2)},
		{"1", "2", "1001/1000", dc("11", -1)},
		{"1", "11/10", "1001/1000", dc("101", -2)},
		{"1", "2", "1999/1000", dc("19", -1)},
		{"9", "11", "91/10", dc("1", 1)},
	})
}

// Nought lies in the interval: it has the fewest digits, and no sign.
func TestP183AroundNought(t *testing.T) {
	for _, c := range []span{
		{rat("0"), rat("1"), true, true}, {rat("0"), rat("1"), true, false}, {rat("-1"), rat("0"), false, true},
		{rat("-1"), rat("1"), false, false}, {rat("-1/1000000"), rat("1000000"), false, false}, {rat("0"), rat("0"), true, true},
	} {
		for _, text := range []string{"0", "1/2", "-1/2", "1/3000000", "-1/3000000", "999", "1"} {
			if at := rat(text); c.has(at) {
				withinIs(t, c, at, told{dc("", 0), true, api.OK})
			}
		}
	}
	// Nought is out, or an end that is.
	withinIs(t, span{rat("0"), rat("1"), false, true}, rat("1"), told{dc("1", 0), true, api.OK})
	withinIs(t, span{rat("-1"), rat("0"), true, false}, rat("-1"), told{dc("-1", 0), true, api.OK})
	withinIs(t, span{rat("0"), rat("1"), false, true}, rat("0"), told{e: api.ErrArg})
	withinIs(t, span{rat("-1"), rat("0"), true, false}, rat("0"), told{e: api.ErrArg})
	withinIs(t, span{rat("0"), rat("0"), true, false}, rat("0"), told{e: api.ErrArg})
	withinIs(t, span{rat("0"), rat("0"), false, false}, rat("0"), told{e: api.ErrArg})
}

// An interval that is one number: all its digits, however many, if it is a decimal; else there is none.
func TestP183OneNumber(t *testing.T) {
	deep := new(big.Rat).SetFrac(big.NewInt(1), new(big.Int).Lsh(big.NewInt(1), 8191))
	for _, at := range []*big.Rat{rat("1/8"), rat("-7/5"), rat("123456789/1000"), rat("1e300"), rat("3e-300"), deep, turnedRat(deep)} {
		want, ok := decimalOf(at)
		if !ok {
			t.Fatalf("%s is no decimal", showRat(at))
		}
		withinIs(t, span{at, at, true, true}, at, told{want, true, api.OK})
	}
	for _, at := range []*big.Rat{rat("1/3"), rat("-1/3"), rat("1/7000"), rat("22/7"), rat("1e300/3"), rat("1/3e-300"), times(deep, rat("2/3"))} {
		withinIs(t, span{at, at, true, true}, at, told{})
	}
	// With an end out the number does not lie in it.
	for _, at := range []*big.Rat{rat("1/8"), rat("1/3"), rat("-1/3")} {
		withinIs(t, span{at, at, true, false}, at, told{e: api.ErrArg})
		withinIs(t, span{at, at, false, true}, at, told{e: api.ErrArg})
		withinIs(t, span{at, at, false, false}, at, told{e: api.ErrArg})
	}
}

// A number at an end that is in, at one that is not, just beyond it and just ahead of it.
func TestP183AtTheEnds(t *testing.T) {
	for _, c := range [][2]string{{"1/3", "1/2"}, {"1/8", "1/7"}, {"-1/2", "-1/3"}, {"-1/3", "1/3"}, {"1e20", "1e21"}, {"3/7e-30", "1/2e-30"}, {"1/3", "33334/100000"}} {
		for _, s := range (span{low: rat(c[0]), high: rat(c[1])}).flags() {
			size := less(s.high, s.low)
			for _, tiny := range []*big.Rat{new(big.Rat), times(size, tenTo(-50)), times(size, tenTo(-400))} {
				for _, end := range []*big.Rat{s.low, s.high} {
					withinHolds(t, s, plus(end, tiny))
					withinHolds(t, s, less(end, tiny))
				}
			}
		}
	}
}

func TestP183SomeIntervals(t *testing.T) {
	t.Parallel()
	r := source(8)
	some := func(bits int) *big.Int {
		n := big.NewInt(1 + r.Int64N(1<<r.IntN(30)))
		return n.Or(n.Lsh(n, uint(r.IntN(bits))), big.NewInt(r.Int64N(1<<20)))
	}
	for range 1500 {
		low := new(big.Rat).SetFrac(some(200), plusOne(some(200)))
		// Wide and narrow ones, as wide as the low end is great, or far narrower.
		size := times(low, new(big.Rat).SetFrac(some(60), some(1+r.IntN(160))))
		if r.IntN(4) == 0 {
			low = less(low, times(size, big.NewRat(r.Int64N(9), 8)))
		}
		s := span{low, plus(low, size), r.IntN(2) == 0, r.IntN(2) == 0}
		if r.IntN(2) == 0 {
			s = s.mirror()
		}
		at := plus(s.low, times(size, big.NewRat(r.Int64N(101), 100)))
		want := withinHolds(t, s, at)
		turnedWant := want
		turnedWant.d.Neg = want.d.Digits != "" && !want.d.Neg
		withinIs(t, s.mirror(), turnedRat(at), turnedWant)
	}
}

func plusOne(n *big.Int) *big.Int { return n.Add(n, big.NewInt(1)) }

// Intervals so narrow that hundreds of digits are told, of numbers that are great, small, and near 1.
func TestP183HundredsOfDigits(t *testing.T) {
	t.Parallel()
	for _, size := range []int{100, 301} {
		for _, scale := range []int{0, 300, -1200} {
			for _, x := range []*big.Rat{rat("1/3"), rat("1/7"), rat("99/100"), rat("2/11")} {
				low := times(x, tenTo(scale))
				s := span{low, plus(low, times(low, tenTo(-size))), false, true}
				at := halfway(s.low, s.high)
				d := withinHolds(t, s, at).d
				if n := len(d.Digits); x.Num().Int64() < 3 && (n < size-1 || n > size+1) {
					t.Errorf("%v: %d digits", s, n)
				}
			}
		}
	}
	// Nines all along, and a number with hundreds of digits that ends in one.
	nines := rat(strings.Repeat("9", 300))
	withinHolds(t, span{nines, plus(nines, rat("1/3")), true, true}, nines)
	withinHolds(t, span{nines, plus(nines, rat("1/3")), false, true}, plus(nines, rat("1/7")))
	withinHolds(t, span{less(nines, rat("1/3")), plus(nines, rat("2")), false, true}, nines)
}

// Numbers of just 256 limbs, above and below the line, in every place.
func TestP183LongNumbers(t *testing.T) {
	t.Parallel()
	top := new(big.Int).Lsh(big.NewInt(1), 32*256)
	whole := func(less int64) *big.Int { return new(big.Int).Sub(top, big.NewInt(less)) }
	great, small := new(big.Rat).SetInt(whole(1)), new(big.Rat).SetFrac(big.NewInt(1), whole(1))
	near := new(big.Rat).SetFrac(whole(2), whole(1))
	nearer := new(big.Rat).SetFrac(whole(1), whole(3))
	withinHolds(t, span{rat("1"), great, true, true}, great)
	withinHolds(t, span{rat("1"), great, true, false}, rat("10"))
	withinHolds(t, span{small, rat("1"), true, true}, small)
	withinHolds(t, span{small, great, false, false}, near)
	withinHolds(t, span{rat("9/10"), rat("11/10"), true, true}, near)
	withinHolds(t, span{near, rat("2"), false, true}, rat("3/2"))
	withinHolds(t, span{near, rat("2"), true, true}, nearer)
	withinIs(t, span{great, great, true, true}, great, told{only(false, whole(1).String(), 0), true, api.OK})
	withinIs(t, span{small, small, true, true}, small, told{})
	withinIs(t, span{rat("0"), great, true, true}, small, told{dc("", 0), true, api.OK})
	withinIs(t, span{small, rat("1"), false, true}, small, told{e: api.ErrArg})
	// So near to each other that no few digits lie between.
	d, is, e := Within(fraction(near), fraction(nearer), true, true, fraction(near))
	if e != api.OK || !is || d != dc("1", 0) {
		t.Errorf("1 lies between the two about it: %s, %v, error %d", show(d), is, int(e))
	}
	close := new(big.Rat).SetFrac(whole(3), whole(2))
	d, is, e = Within(fraction(close), fraction(near), true, true, fraction(near))
	if e != api.OK || !is || !(span{close, near, true, true}).has(ratOf(d)) || len(d.Digits) < 4900 || d.Digits[:2400] != strings.Repeat("9", 2400) {
		t.Errorf("between two that are near 1 and near each other: %s, %v, error %d", show(d), is, int(e))
	}
}

// What is handed in stays as it was, its spare room too.
func TestP183Memory(t *testing.T) {
	spare := func(n api.Nat) api.Nat {
		room := append(slices.Clone(n.Limbs), 7, 7, 7)
		return api.Nat{Limbs: room[:len(n.Limbs)]}
	}
	spareRatio := func(text string) api.Ratio {
		r := fraction(rat(text))
		return api.Ratio{Neg: r.Neg, Num: spare(r.Num), Den: spare(r.Den)}
	}
	same := func(r api.Ratio, text string) bool {
		want := fraction(rat(text))
		for _, c := range [][2]api.Nat{{r.Num, want.Num}, {r.Den, want.Den}} {
			n := len(c[1].Limbs)
			if all := c[0].Limbs[:n+3]; !slices.Equal(all[:n], c[1].Limbs) || !slices.Equal(all[n:], []uint32{7, 7, 7}) {
				return false
			}
		}
		return r.Neg == want.Neg
	}
	for _, c := range [][3]string{{"1/3", "1/2", "2/5"}, {"-1e30/7", "-1e30/8", "-1e30/8"}, {"-1", "1", "0"}, {"1/8", "1/8", "1/8"}, {"1", "0", "1/2"}} {
		low, high, at := spareRatio(c[0]), spareRatio(c[1]), spareRatio(c[2])
		Within(low, high, true, true, at)
		if !same(low, c[0]) || !same(high, c[1]) || !same(at, c[2]) {
			t.Errorf("Within(%s, %s, %s) changed what it was handed", c[0], c[1], c[2])
		}
	}
}
