package nat

import (
	"math/big"
	"testing"

	"numeral/api"
)

func checkGcd(t *testing.T, a, b api.Nat) {
	t.Helper()
	want := new(big.Int).GCD(nil, nil, asBig(a), asBig(b))
	g, e := Gcd(a, b)
	same(t, "Gcd", g, e, want)
	g, e = Gcd(b, a)
	same(t, "Gcd turned round", g, e, want)
}

func TestP17Examples(t *testing.T) {
	for _, c := range [][3]uint64{{12, 18, 6}, {0, 5, 5}, {5, 0, 5}, {0, 0, 0}, {1, 1, 1}, {7, 7, 7}, {1 << 40, 1 << 50, 1 << 40}} {
		g, e := Gcd(Of(c[0]), Of(c[1]))
		same(t, "Gcd", g, e, new(big.Int).SetUint64(c[2]))
	}
}

func TestP17Gcd(t *testing.T) {
	all := edges(3)
	for i, a := range all {
		for j := i % 7; j < len(all); j += 7 {
			checkGcd(t, a, all[j])
		}
	}
	r := source(17)
	for range 2000 {
		a, b, c := some(r, 20), some(r, 20), some(r, 10)
		checkGcd(t, a, b)
		x, _ := Mul(a, c)
		y, _ := Mul(b, c)
		checkGcd(t, x, y)
	}
}

// Neighbours in Fibonacci's row have quotients of 1 alone; neighbours in a row of great quotients go by single steps.
func TestP17Rows(t *testing.T) {
	for _, factor := range []int64{1, 2, 1<<31 - 2, 1<<31 - 1, 1 << 31, 1 << 40, 1 << 61, 1<<62 + 3} {
		x, y := big.NewInt(0), big.NewInt(1)
		for x.BitLen() < 3000 {
			x, y = y, new(big.Int).Add(x, new(big.Int).Mul(y, big.NewInt(factor)))
			checkGcd(t, fromBig(x), fromBig(y))
		}
		c := asBig(filled(5, limbMask))
		checkGcd(t, fromBig(x.Mul(x, c)), fromBig(y.Mul(y, c)))
	}
}

func TestP17Greatest(t *testing.T) {
	r := source(18)
	top := greatest()
	checkGcd(t, top, top)
	checkGcd(t, top, api.Nat{})
	checkGcd(t, top, Of(3))
	checkGcd(t, top, bit(524287))
	l := make([]uint32, api.MaxLimbs)
	for i := range l {
		l[i] = r.Uint32() | 1
	}
	checkGcd(t, top, api.Nat{Limbs: l})
}

// Factors that are too great would wrap unseen.
func TestP17FactorsStaySmall(t *testing.T) {
	r := source(20)
	fits := func(x, y int64) {
		for _, f := range foretell(x, y).all() {
			if f >= 1<<31 || f <= -1<<31 {
				t.Errorf("foretell(%d, %d): the factor %d", x, y, f)
			}
		}
	}
	for range 200000 {
		x := 1<<61 | r.Int64N(1<<61)
		fits(x, r.Int64N(x+1))
		fits(x, x-r.Int64N(1<<20))
		fits(x, 1<<31-500+r.Int64N(1000))
		fits(1<<62-1-r.Int64N(1000), 1<<r.IntN(62)+r.Int64N(3)-1)
	}
	// The quotients of x over y are 1, or 2, alone: the longest ways.
	for _, factor := range []int64{1, 2, 3} {
		x, y := int64(1), int64(0)
		for x < 1<<62/(factor+1) {
			x, y = factor*x+y, x
			fits(x, y)
		}
	}
}

func (s steps) all() []int64 { return []int64{s.upperX, s.upperY, s.lowerX, s.lowerY} }
