package round

import (
	"slices"
	"testing"

	"numeral/api"
	"numeral/nat"
)

// roomy has the same limbs and room behind them, which is marked.
func roomy(a api.Nat) api.Nat {
	l := append(slices.Clone(a.Limbs), 0x5a5a5a5a, 0x5a5a5a5a, 0x5a5a5a5a)
	return api.Nat{Limbs: l[:len(a.Limbs)]}
}

// all is the limbs of a number and the room behind them, as they are now.
func all(a api.Nat) []uint32 { return slices.Clone(a.Limbs[:cap(a.Limbs)]) }

// Nothing that is handed in is changed, nor is its spare room; what Whole answers shares no memory with it.
func TestMemory(t *testing.T) {
	f := form(11, 52)
	long := longFraction(t, 500, true)
	for _, r := range []api.Ratio{{Den: nat.Of(1)}, {Num: nat.Of(1), Den: nat.Of(3)}, {Num: nat.Of(7), Den: nat.Of(1)}, {Neg: true, Num: nat.Of(5), Den: nat.Of(2)}, long, {Num: long.Num, Den: nat.Of(1)}, {Num: limbs(2, 0), Den: limbs(4, 0)}} {
		r.Num, r.Den = roomy(r.Num), roomy(r.Den)
		num, den := all(r.Num), all(r.Den)
		var told []api.Nat
		for _, mode := range everyMode {
			Ratio(f, r, true, mode)
			for _, n := range []int{1, -1, 100, -100, 10000, -10000} {
				Scaled(f, r, n, true, mode)
			}
			Dyadic(f, api.Dyadic{Mant: r.Num}, true, mode)
			for range 2 {
				_, n, _, _ := Whole(r, mode)
				told = append(told, n)
			}
		}
		for i, n := range told {
			l := n.Limbs[:cap(n.Limbs)]
			for k := range l {
				l[k] = uint32(i)
			}
		}
		if !slices.Equal(all(r.Num), num) || !slices.Equal(all(r.Den), den) {
			t.Errorf("%v over %v has changed", r.Num.Limbs, r.Den.Limbs)
		}
		for i, n := range told {
			if slices.ContainsFunc(n.Limbs, func(limb uint32) bool { return limb != uint32(i) }) {
				t.Error("two answers share memory")
			}
		}
	}
}
