package nat

import (
	"math"
	"math/big"
	"testing"

	"numeral/api"
)

func TestP14Examples(t *testing.T) {
	up, e := Up(Of(3), 33)
	same(t, "Up(3, 33)", up, e, big.NewInt(25769803776))
	down, e := Down(up, 34)
	same(t, "Down(Up(3, 33), 34)", down, e, big.NewInt(1))
	up, e = Up(api.Nat{}, 1<<40)
	same(t, "Up(0, 2^40)", up, e, new(big.Int))
	up, e = Up(Of(1), 1<<40)
	refused(t, "Up(1, 2^40)", up, e, api.ErrMany)
	down, e = Down(Of(1), -1)
	refused(t, "Down(1, -1)", down, e, api.ErrArg)
}

func TestP14Shifts(t *testing.T) {
	r := source(15)
	all := append(edges(2), some(r, 9), some(r, 9), some(r, 40))
	for _, a := range all {
		for n := range 140 {
			up, e := Up(a, n)
			same(t, "Up", up, e, new(big.Int).Lsh(asBig(a), uint(n)))
			down, e := Down(a, n)
			same(t, "Down", down, e, new(big.Int).Rsh(asBig(a), uint(n)))
		}
	}
}

func TestP14BelowNought(t *testing.T) {
	for _, n := range []int{-1, -32, math.MinInt} {
		for _, a := range []api.Nat{{}, Of(1), greatest()} {
			up, e := Up(a, n)
			refused(t, "Up below nought", up, e, api.ErrArg)
			down, e := Down(a, n)
			refused(t, "Down below nought", down, e, api.ErrArg)
		}
	}
}

func TestP14Many(t *testing.T) {
	top := greatest()
	for _, c := range []struct {
		a api.Nat
		n int
	}{{top, 1}, {top, math.MaxInt}, {Of(1), 524288}, {Of(3), 524287}, {limbs(0, 1), 524256}, {Of(1), math.MaxInt}} {
		up, e := Up(c.a, c.n)
		refused(t, "Up beyond MaxLimbs", up, e, api.ErrMany)
	}
	for _, c := range []struct {
		a api.Nat
		n int
	}{{top, 0}, {Of(1), 524287}, {Of(3), 524286}, {Of(1<<32 - 1), 524256}, {limbs(0, 1), 524255}, {api.Nat{}, math.MaxInt}} {
		up, e := Up(c.a, c.n)
		want := new(big.Int)
		if len(c.a.Limbs) > 0 {
			want.Lsh(asBig(c.a), uint(c.n))
		}
		same(t, "Up to MaxLimbs", up, e, want)
	}
	for _, n := range []int{0, 1, 31, 32, 524256, 524287, 524288, 1 << 40, math.MaxInt} {
		down, e := Down(top, n)
		same(t, "Down of the greatest", down, e, new(big.Int).Rsh(asBig(top), uint(n)))
	}
}
