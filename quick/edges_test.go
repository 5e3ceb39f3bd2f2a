package quick

import (
	"math"
	"math/big"
	"strings"
	"testing"

	"numeral/api"
)

// ends is, of one exponent, the greatest digits that are quick and the least that are not; those with a nought at their end may not be.
type ends struct {
	exp       int
	last, one int64
}

// takenUp are the ends of the exponents whose power the digits take up.
func (k kind) takenUp() []ends {
	if k.size == 32 {
		return []ends{{11, 1677721, 1677722}, {12, 167772, 167773}, {13, 16777, 16778}, {14, 1677, 1678}, {15, 167, 168}, {16, 16, 17}, {17, 1, 2}}
	}
	return []ends{
		{23, 900719925474099, 900719925474101}, {24, 90071992547409, 90071992547411}, {25, 9007199254739, 9007199254741},
		{26, 900719925474, 900719925475}, {27, 90071992547, 90071992548}, {28, 9007199254, 9007199255},
		{29, 900719925, 900719926}, {30, 90071992, 90071993}, {31, 9007199, 9007201},
		{32, 900719, 900721}, {33, 90071, 90072}, {34, 9007, 9008},
		{35, 899, 901}, {36, 89, 91}, {37, 9, 11},
	}
}

func TestP141P142P143DigitsAtTheEnd(t *testing.T) {
	for _, k := range bothKinds {
		last := map[int]int64{64: 9007199254740992, 32: 16777216}[k.size]
		for exp := -k.tens; exp <= k.tens; exp++ {
			k.sure(t, di(last-1, exp))
			k.sure(t, di(last, exp))
			k.refused(t, di(last+1, exp))
			k.refused(t, di(last+2, exp))
			k.refused(t, di(2*last, exp))
		}
		for _, exp := range []int{-k.tens - 1, k.tens + 1, k.last, k.last + 1} {
			k.refused(t, di(last-1, exp))
			k.refused(t, di(last, exp))
		}
	}
}

func TestP141P142P143ExponentsAtTheEnd(t *testing.T) {
	for _, k := range bothKinds {
		least, last, most := -22, 22, 37
		if k.size == 32 {
			least, last, most = -10, 10, 17
		}
		for exp := least; exp <= most; exp++ {
			k.sure(t, dc("1", exp))
		}
		for _, exp := range []int{least - 1, least - 2, most + 1, most + 2, 100, -100, 308, -324, 1 << 10, -1 << 10, api.MaxExp, -api.MaxExp} {
			k.refused(t, dc("1", exp))
			k.refused(t, dc("9", exp))
		}
		for _, n := range []int64{3, 7, 15, 16, 12345, 1677721, 1234567, 9999999} {
			k.sure(t, di(n, least))
			k.refused(t, di(n, least-1))
			k.sure(t, di(n, last))
			k.refused(t, di(n, most+1))
		}
	}
}

func TestP141P142P143DigitsTakeUpThePower(t *testing.T) {
	for _, k := range bothKinds {
		all := k.takenUp()
		if all[0].exp != k.tens+1 || len(all) != k.last-k.tens {
			t.Fatal("the test leaves an exponent out")
		}
		for _, c := range all {
			k.sure(t, di(c.last, c.exp))
			k.refused(t, di(c.one, c.exp))
			k.refused(t, di(c.one, c.exp+1))
			for n := c.last - 30; n <= c.one+30; n++ {
				if n > 0 {
					k.holdsBoth(t, di(n, c.exp))
				}
			}
		}
	}
}

// All exponents near the ends, with digits of every length.
func TestP141P142P143EveryExponent(t *testing.T) {
	for _, k := range bothKinds {
		for exp := -k.tens - 5; exp <= k.last+25; exp++ {
			for _, n := range []int64{1, 2, 5, 8, 9, 25, 99, 101, 512, 999, 8192, 65535, 99999, 1000001, 16777213, 16777219, 4294967297, 99999999999, 1234567890123, 9007199254740991, 9999999999999999} {
				k.holdsBoth(t, di(n, exp))
			}
		}
	}
}

func TestP141P142P143LongDigits(t *testing.T) {
	for _, k := range bothKinds {
		for _, exp := range []int{-k.tens, -1, 0, 1, k.tens, k.tens + 1, k.last} {
			for _, size := range []int{17, 18, 19, 20, 21, 22, 38, 39, 40, 100, 1000, api.MaxText - 1, api.MaxText} {
				for _, c := range []string{"1", "2", "9"} {
					k.refused(t, dc(strings.Repeat(c, size), exp))
				}
				// The first digit counts, and so does the last one.
				k.refused(t, dc("1"+strings.Repeat("0", size-2)+"1", exp))
			}
			k.refused(t, dc(strings.Repeat("1", api.MaxText+1), exp))
		}
	}
}

// Digits that come to little in 32 or 64 bits, or would as they take up a power, are long all the same.
func TestP141P142P143DigitsThatWrap(t *testing.T) {
	for _, k := range bothKinds {
		for _, bits := range []uint{31, 32, 63, 64} {
			round := new(big.Int).Lsh(big.NewInt(1), bits)
			for times := int64(1); times < 2000; times += 7 {
				for left := int64(0); left < 12; left++ {
					n := new(big.Int).Mul(round, big.NewInt(times))
					n.Add(n, big.NewInt(left))
					k.holds(t, dc(n.String(), int(times)%k.last))
					k.holds(t, dc(n.Mul(n, tenTo(int(times)%90)).Add(n, round).String(), 0))
				}
			}
			for tens := 1; tens <= k.last-k.tens; tens++ {
				for left := int64(0); left < 12; left++ {
					n := new(big.Int).Div(round, tenTo(tens))
					n.Add(n, big.NewInt(left))
					k.holds(t, dc(n.String(), k.tens+tens))
				}
			}
		}
		k.refused(t, dc("18446744073709551617", 0))
		k.refused(t, dc("36893488147419103233", 0))
		k.refused(t, dc("1844674407370955162", k.tens+1))
		k.refused(t, dc("18446744073709552", k.tens+3))
	}
}

func TestP141P142P143Noughts(t *testing.T) {
	for _, k := range bothKinds {
		k.sure(t, api.Dec{})
	}
	minus := math.Copysign(0, -1)
	doubleIs(t, api.Dec{}, 0, true)
	doubleIs(t, api.Dec{Neg: true}, minus, true)
	singleIs(t, api.Dec{}, 0, true)
	singleIs(t, api.Dec{Neg: true}, float32(minus), true)
	if !Fits(api.Dec{}) || !Fits(api.Dec{Neg: true}) {
		t.Error("nought does not fit")
	}
}
