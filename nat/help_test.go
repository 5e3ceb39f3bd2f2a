package nat

import (
	"math/big"
	"math/rand/v2"
	"slices"
	"testing"

	"numeral/api"
)

// The limbs at which carries, borrows and guessed digits go wrong, if they do.
var edgeLimbs = []uint32{0, 1, 0x7fffffff, 0x80000000, 0xfffffffe, 0xffffffff}

// limbs is a number as it is written, not trimmed.
func limbs(l ...uint32) api.Nat { return api.Nat{Limbs: l} }

// filled has so many limbs, all alike.
func filled(n int, limb uint32) api.Nat {
	l := make([]uint32, n)
	for i := range l {
		l[i] = limb
	}
	return api.Nat{Limbs: l}
}

// greatest is the greatest number that may be.
func greatest() api.Nat { return filled(api.MaxLimbs, limbMask) }

// bit is 2 to the power of n.
func bit(n int) api.Nat {
	l := make([]uint32, n/32+1)
	l[n/32] = 1 << (n % 32)
	return api.Nat{Limbs: l}
}

// asBig goes by bytes, not by any call of the package.
func asBig(a api.Nat) *big.Int {
	b := make([]byte, 0, 4*len(a.Limbs))
	for _, limb := range slices.Backward(a.Limbs) {
		b = append(b, byte(limb>>24), byte(limb>>16), byte(limb>>8), byte(limb))
	}
	return new(big.Int).SetBytes(b)
}

func fromBig(n *big.Int) api.Nat {
	b := n.Bytes()
	slices.Reverse(b)
	l := make([]uint32, (len(b)+3)/4)
	for i, x := range b {
		l[i/4] |= uint32(x) << (8 * (i % 4))
	}
	return api.Nat{Limbs: l}
}

func number(t *testing.T, s string) api.Nat {
	t.Helper()
	n, ok := new(big.Int).SetString(s, 10)
	if !ok {
		t.Fatalf("no number: %q", s)
	}
	return fromBig(n)
}

// source is the same at every run.
func source(seed uint64) *rand.Rand { return rand.New(rand.NewPCG(seed, 1)) }

// some has up to so many limbs, edges among them.
func some(r *rand.Rand, most int) api.Nat {
	l := make([]uint32, r.IntN(most+1))
	for i := range l {
		l[i] = r.Uint32()
		if r.IntN(2) == 0 {
			l[i] = edgeLimbs[r.IntN(len(edgeLimbs))]
		}
	}
	for len(l) > 0 && l[len(l)-1] == 0 {
		l[len(l)-1] = r.Uint32()
	}
	return api.Nat{Limbs: l}
}

// edges are all numbers of up to so many limbs out of edgeLimbs.
func edges(most int) []api.Nat {
	all := []api.Nat{{}}
	row := [][]uint32{nil}
	for range most {
		var next [][]uint32
		for _, low := range row {
			for _, limb := range edgeLimbs {
				l := append(slices.Clone(low), limb)
				next = append(next, l)
				if limb != 0 {
					all = append(all, api.Nat{Limbs: l})
				}
			}
		}
		row = next
	}
	return all
}

// same wants the one form that a number has, and OK.
func same(t *testing.T, what string, got api.Nat, e api.Errno, want *big.Int) {
	t.Helper()
	if e != api.OK || !slices.Equal(got.Limbs, fromBig(want).Limbs) {
		t.Errorf("%s: got %s (%d limbs), error %d; want %s", what, brief(asBig(got)), len(got.Limbs), int(e), brief(want))
	}
}

// refused wants this error and nothing beside it.
func refused(t *testing.T, what string, got api.Nat, e, want api.Errno) {
	t.Helper()
	if e != want || len(got.Limbs) != 0 {
		t.Errorf("%s: error %d with %d limbs, want error %d with none", what, int(e), len(got.Limbs), int(want))
	}
}

func brief(n *big.Int) string {
	if n.BitLen() > 1000 {
		return "some number of so many bits: " + big.NewInt(int64(n.BitLen())).String()
	}
	return n.String()
}
