package power

import (
	"math"
	"math/big"
	"testing"

	"numeral/api"
)

const most = api.MaxPower

// beyond are powers that are not kept by anyone.
func beyond() []int {
	return []int{most + 1, -most - 1, most + 2, -most - 2, 2 * most, -2 * most, 1 << 31, -1 << 31, 1 << 32, 1<<32 + 1, 1<<62 + 5, math.MaxInt, math.MinInt, math.MinInt + 1}
}

func big128(hi, lo uint64) *big.Int {
	n := new(big.Int).SetUint64(hi)
	return n.Lsh(n, 64).Add(n, new(big.Int).SetUint64(lo))
}

// upBy is n times 2 to the power of exp, exp from 0 on.
func upBy(n *big.Int, exp int) *big.Int { return new(big.Int).Lsh(n, uint(exp)) }

func pow(b int64, n int) *big.Int { return new(big.Int).Exp(big.NewInt(b), big.NewInt(int64(n)), nil) }

// fraction is n times b to the power of exp, exactly.
func fraction(n *big.Int, b int64, exp int) *big.Rat {
	if exp < 0 {
		return new(big.Rat).SetFrac(n, pow(b, -exp))
	}
	return new(big.Rat).SetInt(new(big.Int).Mul(n, pow(b, exp)))
}

// tenAt is Ten of a power that there is.
func tenAt(t *testing.T, k int) (bits *big.Int, exp int) {
	t.Helper()
	hi, lo, exp, e := Ten(k)
	if e != api.OK {
		t.Fatalf("Ten(%d): error %d", k, int(e))
	}
	return big128(hi, lo), exp
}

func tenIs(t *testing.T, k int, hi, lo uint64, exp int) {
	t.Helper()
	if h, l, x, e := Ten(k); h != hi || l != lo || x != exp || e != api.OK {
		t.Errorf("Ten(%d): %x %x, %d, error %d; want %x %x, %d", k, h, l, x, int(e), hi, lo, exp)
	}
}

func wholeIs(t *testing.T, k int, want bool) {
	t.Helper()
	if is, e := Whole(k); is != want || e != api.OK {
		t.Errorf("Whole(%d): %v, error %d; want %v", k, is, int(e), want)
	}
}

func timesIs(t *testing.T, m uint64, k int, hi, lo uint64, more bool) {
	t.Helper()
	if h, l, r, e := Times(m, k); h != hi || l != lo || r != more || e != api.OK {
		t.Errorf("Times(%x, %d): %x %x %v, error %d; want %x %x %v", m, k, h, l, r, int(e), hi, lo, more)
	}
}

func twoIs(t *testing.T, n, want int) {
	t.Helper()
	if d, e := Two(n); d != want || e != api.OK {
		t.Errorf("Two(%d): %d, error %d; want %d", n, d, int(e), want)
	}
}

// keeperOf is a keeper that New makes.
func keeperOf(t *testing.T, least, most int) *Keeper {
	t.Helper()
	k, e := New(least, most)
	if k == nil || e != api.OK {
		t.Fatalf("New(%d, %d): %v, error %d", least, most, k, int(e))
	}
	return k
}

// keptIs holds what a keeper tells against what Ten tells.
func keptIs(t *testing.T, k *Keeper, n int) {
	t.Helper()
	hi, lo, exp, _ := Ten(n)
	if h, l, x, e := k.Ten(n); h != hi || l != lo || x != exp || e != api.OK {
		t.Errorf("a keeper's Ten(%d): %x %x, %d, error %d; want %x %x, %d", n, h, l, x, int(e), hi, lo, exp)
	}
}

func notKept(t *testing.T, k *Keeper, n int, want api.Errno) {
	t.Helper()
	if hi, lo, exp, e := k.Ten(n); hi != 0 || lo != 0 || exp != 0 || e != want {
		t.Errorf("a keeper's Ten(%d): %x %x, %d, error %d; want the error %d", n, hi, lo, exp, int(e), int(want))
	}
}

func madeIs(t *testing.T, k *Keeper, want int) {
	t.Helper()
	if n := k.Made(); n != want {
		t.Errorf("the powers have been made %d times, not %d", n, want)
	}
}

// crowdIs: each of the askers was told what Ten has as hi.
func crowdIs(t *testing.T, k *Keeper, n, askers int) {
	t.Helper()
	want, _, _, _ := Ten(n)
	told, e := k.Crowd(n, askers)
	if len(told) != askers || e != api.OK {
		t.Errorf("Crowd(%d, %d): %d answers, error %d", n, askers, len(told), int(e))
	}
	for i, hi := range told {
		if hi != want {
			t.Errorf("Crowd(%d, %d): the asker number %d was told %x, not %x", n, askers, i, hi, want)
		}
	}
}

func noCrowd(t *testing.T, k *Keeper, n, askers int, want api.Errno) {
	t.Helper()
	if told, e := k.Crowd(n, askers); len(told) != 0 || e != want {
		t.Errorf("Crowd(%d, %d): %x, error %d; want the error %d", n, askers, told, int(e), int(want))
	}
}
